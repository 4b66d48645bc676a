/-
  GreatestMove (both packages).
-/
import Derived.Test.YtleaoemckdkndaaMeS
import Derived.Test.YtleaoemckdkndaaRootS
import Derived.Test.YtleaoemckdkndaaMnMx
import Derived.Test.YtleaoemckdkndaaKeep
import Derived.Deep.RegionHeld3
namespace Go.Proofs.Ytleaoemckdkndaa.Me
open Go.RowKit
open Sp (V Own Row zero getD_at)
set_option linter.unusedVariables false

theorem sq_b {d : Int} (h : -4000000 ≤ d ∧ d ≤ 4000000) : 0 ≤ d * d ∧ d * d ≤ 16000000000000 := by
  rcases Int.le_total 0 d with h0 | h0
  · exact ⟨Int.mul_nonneg h0 h0, Int.mul_le_mul h.2 h.2 h0 (by omega)⟩
  · rw [← Int.neg_mul_neg]
    exact ⟨Int.mul_nonneg (by omega) (by omega), Int.mul_le_mul (show -d ≤ 4000000 by omega) (show -d ≤ 4000000 by omega) (by omega) (by omega)⟩
def sqd (x0 x1 y0 y1 : Int) : Int := (x0 - y0) * (x0 - y0) + (x1 - y1) * (x1 - y1)
def pl (a b : Int) : Prop := (-2000000 ≤ a ∧ a ≤ 2000000) ∧ (-2000000 ≤ b ∧ b ≤ 2000000)
theorem sqd_bd {x0 x1 y0 y1 : Int} (hx : pl x0 x1) (hy : pl y0 y1) : 0 ≤ sqd x0 x1 y0 y1 ∧ sqd x0 x1 y0 y1 ≤ 32000000000000 := by
  unfold pl at hx hy
  have a := sq_b (d := x0 - y0) (by omega)
  have b := sq_b (d := x1 - y1) (by omega)
  unfold sqd
  omega
theorem sqd_sym (x0 x1 y0 y1 : Int) : (y0 - x0) * (y0 - x0) + (y1 - x1) * (y1 - x1) = sqd x0 x1 y0 y1 := by
  unfold sqd
  rw [← Int.neg_mul_neg (y0 - x0), ← Int.neg_mul_neg (y1 - x1), Int.neg_sub, Int.neg_sub]
/-- The greatest square of the first j. -/
def mvN (xs ys : List V) : Nat → Int
  | 0 => 0
  | j + 1 => if mvN xs ys j < sqd (xs.getD j zero).f0 (xs.getD j zero).f1 (ys.getD j zero).f0 (ys.getD j zero).f1 then sqd (xs.getD j zero).f0 (xs.getD j zero).f1 (ys.getD j zero).f0 (ys.getD j zero).f1 else mvN xs ys j
theorem meshB_pl {c r : Int} {zs : List V} (h : meshB c r zs = true) (j : Nat) (hj : j < zs.length) : pl (zs.getD j zero).f0 (zs.getD j zero).f1 := by
  unfold meshB at h
  rw [Bool.and_eq_true, Bool.and_eq_true] at h
  rw [getD_at zs j hj]
  exact ptB_bd (List.all_eq_true.1 h.2.2 _ (List.getElem_mem hj))
theorem meshB_len {c r : Int} {zs : List V} (h : meshB c r zs = true) : (zs.length : Int) = c * r := by
  unfold meshB at h
  rw [Bool.and_eq_true, Bool.and_eq_true] at h
  simpa using h.2.1
theorem mvN_bd {xs ys : List V} (hx : ∀ j, j < xs.length → pl (xs.getD j zero).f0 (xs.getD j zero).f1) (hy : ∀ j, j < xs.length → pl (ys.getD j zero).f0 (ys.getD j zero).f1) : ∀ j, j ≤ xs.length → 0 ≤ mvN xs ys j ∧ mvN xs ys j ≤ 32000000000000
  | 0, _ => ⟨Int.le_refl _, by show (0 : Int) ≤ 32000000000000; decide⟩
  | j + 1, hj => by
    have ih := mvN_bd hx hy j (by omega)
    have g := sqd_bd (hx j (by omega)) (hy j (by omega))
    unfold mvN
    split <;> omega
def moveV (c r c' r' : Int) (xs ys : List V) : Int × Int := if meshB c r xs = true then (if meshB c' r' ys = true then (if c = c' ∧ r = r' then (rootI (mvN xs ys xs.length), 0) else (0, 7)) else (0, 1)) else (0, 1)
def NPost (r : Int × Int) (w : World) (e : Ending) (w' : World) : Prop := e = .returned (.tuple #[.int .i64 r.1, .int .i64 r.2]) ∧ Below w.heap.size w w'

set_option maxHeartbeats 1000000 in
theorem far_any (x0 x1 y0 y1 : Int) (w : World) (hx : pl x0 x1) (hy : pl y0 y1) :
    Calls Try.prog 64 #[.agg #[.int .i64 x0, .int .i64 x1], .agg #[.int .i64 y0, .int .i64 y1]] w fun e w' => e = .returned (.int .i64 (sqd x0 x1 y0 y1)) ∧ Below w.heap.size w w' := by
  unfold pl at hx hy
  have a := sq_b (d := x0 - y0) (by omega)
  have b := sq_b (d := x1 - y1) (by omega)
  unfold sqd
  have w1 : wrap64 ((x0 - y0) * (x0 - y0)) = (x0 - y0) * (x0 - y0) := IntWalk.wrap64_in _ (by omega)
  have w2 : wrap64 ((x1 - y1) * (x1 - y1)) = (x1 - y1) * (x1 - y1) := IntWalk.wrap64_in _ (by omega)
  have w3 : wrap64 ((x0 - y0) * (x0 - y0) + (x1 - y1) * (x1 - y1)) = (x0 - y0) * (x0 - y0) + (x1 - y1) * (x1 - y1) := IntWalk.wrap64_in _ (by omega)
  go_enter Try.func64, Try.ntmps64
  go_wp2_with fail
  go_ret
  refine ⟨rfl, ?_⟩
  repeat (first | exact Below.refl _ _ | refine Below.setCell ?_ (by first | (simp; done) | omega | (simp; omega)) _ | refine Below.alloc ?_ (by first | (simp; done) | omega | (simp; omega)) _ | refine bel_drew ?_)
set_option maxHeartbeats 1000000 in
theorem squareTo_any (x0 x1 y0 y1 : Int) (w : World) (hx : pl x0 x1) (hy : pl y0 y1) :
    Calls Try.prog 67 #[.agg #[.int .i64 x0, .int .i64 x1], .agg #[.int .i64 y0, .int .i64 y1]] w fun e w' => e = .returned (.int .i64 (sqd x0 x1 y0 y1)) ∧ Below w.heap.size w w' := by
  rw [← sqd_sym]
  unfold pl at hx hy
  have a := sq_b (d := y0 - x0) (by omega)
  have b := sq_b (d := y1 - x1) (by omega)
  have w1 : wrap64 ((y0 - x0) * (y0 - x0)) = (y0 - x0) * (y0 - x0) := IntWalk.wrap64_in _ (by omega)
  have w2 : wrap64 ((y1 - x1) * (y1 - x1)) = (y1 - x1) * (y1 - x1) := IntWalk.wrap64_in _ (by omega)
  have w3 : wrap64 ((y0 - x0) * (y0 - x0) + (y1 - x1) * (y1 - x1)) = (y0 - x0) * (y0 - x0) + (y1 - x1) * (y1 - x1) := IntWalk.wrap64_in _ (by omega)
  go_enter Try.func67, Try.ntmps67
  go_wp2_with fail
  go_ret
  refine ⟨rfl, ?_⟩
  repeat (first | exact Below.refl _ _ | refine Below.setCell ?_ (by first | (simp; done) | omega | (simp; omega)) _ | refine Below.alloc ?_ (by first | (simp; done) | omega | (simp; omega)) _ | refine bel_drew ?_)

set_option maxRecDepth 100000 in
set_option maxHeartbeats 4000000 in
theorem specMove_any (c r c' r' : Int) (g g' cap cap' : Nat) (xs ys : List V) (w : World) (hb : xs.length ≤ 1048577) (hb2 : ys.length ≤ 1048577) (h1 : Row w g xs) (h2 : Row w g' ys) :
    Calls Try.prog 20 #[.agg #[.int .i64 c, .int .i64 r, .slice (some ⟨g, 0, none⟩) xs.length cap], .agg #[.int .i64 c', .int .i64 r', .slice (some ⟨g', 0, none⟩) ys.length cap']] w (NPost (moveV c r c' r' xs ys) w) := by
  have V1 := Lib.hid (fun (W : World) (hB : Below w.heap.size w W) b hm => l11Ok_any b c r g cap xs W hb hm (h1.below hB))
  have V2 := Lib.hid (fun (W : World) (hB : Below w.heap.size w W) b hm => l11Ok_any b c' r' g' cap' ys W hb2 hm (h2.below hB))
  have H1 := Lib.hid (fun (W : World) (hB : Below w.heap.size w W) => h1.below hB)
  have H2 := Lib.hid (fun (W : World) (hB : Below w.heap.size w W) => h2.below hB)
  clear h1 h2
  unfold moveV
  cases ho : meshB c r xs with
  | false =>
    rw [if_neg (by simp)]
    rw [ho] at V1
    clear ho V2 H1 H2
    go_enter Try.func20, Try.ntmps20
    go_wp2_with fail
    obtain ⟨W1, hW1⟩ : ∃ W, W = w.alloc (Obj.cells #[.int .i64 c, .int .i64 r, .slice (some ⟨g, 0, none⟩) xs.length cap] 29) := ⟨_, rfl⟩
    rw [← hW1]
    have hb1 : Below w.heap.size w W1 := by rw [hW1]; exact (Below.refl _ _).alloc (Nat.le_refl _) _
    have hz1 : W1.heap.size = w.heap.size + 1 := by rw [hW1]; simp
    have M1 : MAt W1 w.heap.size c r (.slice (some ⟨g, 0, none⟩) xs.length cap) := by rw [hW1]; exact MAt.new _ _ _ _ _
    obtain ⟨W2, hW2⟩ : ∃ W, W = W1.alloc (Obj.cells #[.int .i64 c', .int .i64 r', .slice (some ⟨g', 0, none⟩) ys.length cap'] 29) := ⟨_, rfl⟩
    rw [← hW2]
    have hb2 : Below w.heap.size w W2 := by rw [hW2]; exact hb1.alloc hb1.size _
    have M1b : MAt W2 w.heap.size c r (.slice (some ⟨g, 0, none⟩) xs.length cap) := by rw [hW2]; exact M1.below ((Below.refl _ _).alloc (Nat.le_refl _) _)
    have M2b : MAt W2 (w.heap.size + 1) c' r' (.slice (some ⟨g', 0, none⟩) ys.length cap') := by rw [hW2, ← hz1]; exact MAt.new _ _ _ _ _
    have HB2 := Lib.hid hb2
    have MA2 := Lib.hid M1b
    have MB2 := Lib.hid M2b
    clear hW1 hW2 hb1 hb2 hz1 M1 M1b M2b
    refine (V1.out _ HB2.out _ MA2.out).mono ?_
    rintro e w3 ⟨rfl, hb⟩
    have HB3 := Lib.hid (HB2.out.trans (hb.mono HB2.out.size))
    have MA3 := Lib.hid (MA2.out.below hb)
    have MB3 := Lib.hid (MB2.out.below hb)
    clear hb MA2 MB2
    go_wp2_with fail
    go_ret2
    exact ⟨rfl, HB3.out⟩
  | true =>
    rw [if_pos rfl]
    rw [ho] at V1
    cases ho2 : meshB c' r' ys with
    | false =>
      rw [if_neg (by simp)]
      rw [ho2] at V2
      clear ho ho2 H1 H2
      go_enter Try.func20, Try.ntmps20
      go_wp2_with fail
      obtain ⟨W1, hW1⟩ : ∃ W, W = w.alloc (Obj.cells #[.int .i64 c, .int .i64 r, .slice (some ⟨g, 0, none⟩) xs.length cap] 29) := ⟨_, rfl⟩
      rw [← hW1]
      have hb1 : Below w.heap.size w W1 := by rw [hW1]; exact (Below.refl _ _).alloc (Nat.le_refl _) _
      have hz1 : W1.heap.size = w.heap.size + 1 := by rw [hW1]; simp
      have M1 : MAt W1 w.heap.size c r (.slice (some ⟨g, 0, none⟩) xs.length cap) := by rw [hW1]; exact MAt.new _ _ _ _ _
      obtain ⟨W2, hW2⟩ : ∃ W, W = W1.alloc (Obj.cells #[.int .i64 c', .int .i64 r', .slice (some ⟨g', 0, none⟩) ys.length cap'] 29) := ⟨_, rfl⟩
      rw [← hW2]
      have hb2 : Below w.heap.size w W2 := by rw [hW2]; exact hb1.alloc hb1.size _
      have M1b : MAt W2 w.heap.size c r (.slice (some ⟨g, 0, none⟩) xs.length cap) := by rw [hW2]; exact M1.below ((Below.refl _ _).alloc (Nat.le_refl _) _)
      have M2b : MAt W2 (w.heap.size + 1) c' r' (.slice (some ⟨g', 0, none⟩) ys.length cap') := by rw [hW2, ← hz1]; exact MAt.new _ _ _ _ _
      have HB2 := Lib.hid hb2
      have MA2 := Lib.hid M1b
      have MB2 := Lib.hid M2b
      clear hW1 hW2 hb1 hb2 hz1 M1 M1b M2b
      refine (V1.out _ HB2.out _ MA2.out).mono ?_
      rintro e w3 ⟨rfl, hb⟩
      have HB3 := Lib.hid (HB2.out.trans (hb.mono HB2.out.size))
      have MA3 := Lib.hid (MA2.out.below hb)
      have MB3 := Lib.hid (MB2.out.below hb)
      clear hb MA2 MB2
      go_wp2_with fail
      refine (V2.out _ HB3.out _ MB3.out).mono ?_
      rintro e w4 ⟨rfl, hb⟩
      have HB4 := Lib.hid (HB3.out.trans (hb.mono HB3.out.size))
      have MA4 := Lib.hid (MA3.out.below hb)
      have MB4 := Lib.hid (MB3.out.below hb)
      clear hb MA3 MB3
      go_wp2_with fail
      go_ret2
      exact ⟨rfl, HB4.out⟩
    | true =>
      rw [if_pos rfl]
      rw [ho2] at V2
      by_cases hs : c = c' ∧ r = r'
      case neg =>
        rw [if_neg hs]
        clear ho ho2 H1 H2
        by_cases hc : c = c'
        · subst hc
          have hr : ¬ r = r' := fun h => hs ⟨rfl, h⟩
          clear hs
          go_enter Try.func20, Try.ntmps20
          go_wp2_with fail
          obtain ⟨W1, hW1⟩ : ∃ W, W = w.alloc (Obj.cells #[.int .i64 c, .int .i64 r, .slice (some ⟨g, 0, none⟩) xs.length cap] 29) := ⟨_, rfl⟩
          rw [← hW1]
          have hb1 : Below w.heap.size w W1 := by rw [hW1]; exact (Below.refl _ _).alloc (Nat.le_refl _) _
          have hz1 : W1.heap.size = w.heap.size + 1 := by rw [hW1]; simp
          have M1 : MAt W1 w.heap.size c r (.slice (some ⟨g, 0, none⟩) xs.length cap) := by rw [hW1]; exact MAt.new _ _ _ _ _
          obtain ⟨W2, hW2⟩ : ∃ W, W = W1.alloc (Obj.cells #[.int .i64 c, .int .i64 r', .slice (some ⟨g', 0, none⟩) ys.length cap'] 29) := ⟨_, rfl⟩
          rw [← hW2]
          have hb2 : Below w.heap.size w W2 := by rw [hW2]; exact hb1.alloc hb1.size _
          have M1b : MAt W2 w.heap.size c r (.slice (some ⟨g, 0, none⟩) xs.length cap) := by rw [hW2]; exact M1.below ((Below.refl _ _).alloc (Nat.le_refl _) _)
          have M2b : MAt W2 (w.heap.size + 1) c r' (.slice (some ⟨g', 0, none⟩) ys.length cap') := by rw [hW2, ← hz1]; exact MAt.new _ _ _ _ _
          have HB2 := Lib.hid hb2
          have MA2 := Lib.hid M1b
          have MB2 := Lib.hid M2b
          clear hW1 hW2 hb1 hb2 hz1 M1 M1b M2b
          refine (V1.out _ HB2.out _ MA2.out).mono ?_
          rintro e w3 ⟨rfl, hb⟩
          have HB3 := Lib.hid (HB2.out.trans (hb.mono HB2.out.size))
          have MA3 := Lib.hid (MA2.out.below hb)
          have MB3 := Lib.hid (MB2.out.below hb)
          clear hb MA2 MB2
          go_wp2_with fail
          refine (V2.out _ HB3.out _ MB3.out).mono ?_
          rintro e w4 ⟨rfl, hb⟩
          have HB4 := Lib.hid (HB3.out.trans (hb.mono HB3.out.size))
          have MA4 := Lib.hid (MA3.out.below hb)
          have MB4 := Lib.hid (MB3.out.below hb)
          clear hb MA3 MB3
          obtain ⟨a0, a1, a2⟩ := MA4.out
          obtain ⟨b0, b1, b2⟩ := MB4.out
          go_wp2_with fail
          go_ret2
          exact ⟨rfl, HB4.out⟩
        · clear hs
          go_enter Try.func20, Try.ntmps20
          go_wp2_with fail
          obtain ⟨W1, hW1⟩ : ∃ W, W = w.alloc (Obj.cells #[.int .i64 c, .int .i64 r, .slice (some ⟨g, 0, none⟩) xs.length cap] 29) := ⟨_, rfl⟩
          rw [← hW1]
          have hb1 : Below w.heap.size w W1 := by rw [hW1]; exact (Below.refl _ _).alloc (Nat.le_refl _) _
          have hz1 : W1.heap.size = w.heap.size + 1 := by rw [hW1]; simp
          have M1 : MAt W1 w.heap.size c r (.slice (some ⟨g, 0, none⟩) xs.length cap) := by rw [hW1]; exact MAt.new _ _ _ _ _
          obtain ⟨W2, hW2⟩ : ∃ W, W = W1.alloc (Obj.cells #[.int .i64 c', .int .i64 r', .slice (some ⟨g', 0, none⟩) ys.length cap'] 29) := ⟨_, rfl⟩
          rw [← hW2]
          have hb2 : Below w.heap.size w W2 := by rw [hW2]; exact hb1.alloc hb1.size _
          have M1b : MAt W2 w.heap.size c r (.slice (some ⟨g, 0, none⟩) xs.length cap) := by rw [hW2]; exact M1.below ((Below.refl _ _).alloc (Nat.le_refl _) _)
          have M2b : MAt W2 (w.heap.size + 1) c' r' (.slice (some ⟨g', 0, none⟩) ys.length cap') := by rw [hW2, ← hz1]; exact MAt.new _ _ _ _ _
          have HB2 := Lib.hid hb2
          have MA2 := Lib.hid M1b
          have MB2 := Lib.hid M2b
          clear hW1 hW2 hb1 hb2 hz1 M1 M1b M2b
          refine (V1.out _ HB2.out _ MA2.out).mono ?_
          rintro e w3 ⟨rfl, hb⟩
          have HB3 := Lib.hid (HB2.out.trans (hb.mono HB2.out.size))
          have MA3 := Lib.hid (MA2.out.below hb)
          have MB3 := Lib.hid (MB2.out.below hb)
          clear hb MA2 MB2
          go_wp2_with fail
          refine (V2.out _ HB3.out _ MB3.out).mono ?_
          rintro e w4 ⟨rfl, hb⟩
          have HB4 := Lib.hid (HB3.out.trans (hb.mono HB3.out.size))
          have MA4 := Lib.hid (MA3.out.below hb)
          have MB4 := Lib.hid (MB3.out.below hb)
          clear hb MA3 MB3
          obtain ⟨a0, a1, a2⟩ := MA4.out
          obtain ⟨b0, b1, b2⟩ := MB4.out
          go_wp2_with fail
          go_ret2
          exact ⟨rfl, HB4.out⟩
      rw [if_pos hs]
      obtain ⟨rfl, rfl⟩ := hs
      have hl : xs.length = ys.length := by have a := meshB_len ho; have b := meshB_len ho2; omega
      have PX := Lib.hid (meshB_pl ho)
      have PY := Lib.hid (fun j (hj : j < xs.length) => meshB_pl ho2 j (by omega))
      have EB := Lib.hid (mvN_bd PX.out PY.out)
      have EN : Hid (∀ j, mvN xs ys (j + 1) = if mvN xs ys j < sqd (xs.getD j zero).f0 (xs.getD j zero).f1 (ys.getD j zero).f0 (ys.getD j zero).f1 then sqd (xs.getD j zero).f0 (xs.getD j zero).f1 (ys.getD j zero).f0 (ys.getD j zero).f1 else mvN xs ys j) := Lib.hid (fun _ => rfl)
      have E0 : mvN xs ys 0 = 0 := rfl
      have HL := Lib.hid hl
      have RT := Lib.hid (fun w => l01RootI_any (mvN xs ys xs.length) w (by have := EB.out xs.length (Nat.le_refl _); omega))
      generalize rootI (mvN xs ys xs.length) = root at *
      clear ho ho2 hl
      generalize mvN xs ys = En at *
      go_enter Try.func20, Try.ntmps20
      go_wp2_with fail
      obtain ⟨W1, hW1⟩ : ∃ W, W = w.alloc (Obj.cells #[.int .i64 c, .int .i64 r, .slice (some ⟨g, 0, none⟩) xs.length cap] 29) := ⟨_, rfl⟩
      rw [← hW1]
      have hb1 : Below w.heap.size w W1 := by rw [hW1]; exact (Below.refl _ _).alloc (Nat.le_refl _) _
      have hz1 : W1.heap.size = w.heap.size + 1 := by rw [hW1]; simp
      have M1 : MAt W1 w.heap.size c r (.slice (some ⟨g, 0, none⟩) xs.length cap) := by rw [hW1]; exact MAt.new _ _ _ _ _
      obtain ⟨W2, hW2⟩ : ∃ W, W = W1.alloc (Obj.cells #[.int .i64 c, .int .i64 r, .slice (some ⟨g', 0, none⟩) ys.length cap'] 29) := ⟨_, rfl⟩
      rw [← hW2]
      have hb2 : Below w.heap.size w W2 := by rw [hW2]; exact hb1.alloc hb1.size _
      have M1b : MAt W2 w.heap.size c r (.slice (some ⟨g, 0, none⟩) xs.length cap) := by rw [hW2]; exact M1.below ((Below.refl _ _).alloc (Nat.le_refl _) _)
      have M2b : MAt W2 (w.heap.size + 1) c r (.slice (some ⟨g', 0, none⟩) ys.length cap') := by rw [hW2, ← hz1]; exact MAt.new _ _ _ _ _
      have HB2 := Lib.hid hb2
      have MA2 := Lib.hid M1b
      have MB2 := Lib.hid M2b
      clear hW1 hW2 hb1 hb2 hz1 M1 M1b M2b
      refine (V1.out _ HB2.out _ MA2.out).mono ?_
      rintro e w3 ⟨rfl, hb⟩
      have HB3 := Lib.hid (HB2.out.trans (hb.mono HB2.out.size))
      have MA3 := Lib.hid (MA2.out.below hb)
      have MB3 := Lib.hid (MB2.out.below hb)
      clear hb MA2 MB2
      go_wp2_with fail
      refine (V2.out _ HB3.out _ MB3.out).mono ?_
      rintro e w4 ⟨rfl, hb⟩
      have HB4 := Lib.hid (HB3.out.trans (hb.mono HB3.out.size))
      have MA4 := Lib.hid (MA3.out.below hb)
      have MB4 := Lib.hid (MB3.out.below hb)
      clear hb MA3 MB3
      obtain ⟨a0, a1, a2⟩ := MA4.out
      obtain ⟨b0, b1, b2⟩ := MB4.out
      go_wp2_with fail
      clear a0 a1 a2 b0 b1 b2
      have NB : Hid (Below w4.heap.size w4 w4) := Lib.hid (Below.refl _ _)
      go_loopg [6, 7] (xs.length + 1) (fun kx s6 s7 wr => ∃ j : Nat, s6 = .int .i64 (En j) ∧ s7 = .int .i64 (j : Int) ∧ j ≤ xs.length ∧ kx = xs.length + 1 - j ∧ Hid (Below w4.heap.size w4 wr))
      case atStart => exact ⟨0, by rw [E0], rfl, Nat.zero_le _, rfl, NB⟩
      case round =>
        obtain ⟨j, rfl, rfl, hj, rfl, HR⟩ := hrel
        have HW := Lib.hid (HB4.out.trans (HR.out.mono HB4.out.size))
        obtain ⟨-, -, a2⟩ := MA4.out.below HR.out
        obtain ⟨-, -, b2⟩ := MB4.out.below HR.out
        by_cases hlt : j < xs.length
        · have hlt' : j < ys.length := by rw [← HL.out]; exact hlt
          have j0 : (0 : Int) ≤ (j : Int) := by omega
          have j1 : (j : Int) < (xs.length : Int) := by omega
          have j2 : (j : Int) < (ys.length : Int) := by omega
          obtain ⟨c0, c1⟩ := (H1.out wr HW.out).at j hlt
          obtain ⟨d0, d1⟩ := (H2.out wr HW.out).at j hlt'
          have ENj := EN.out j
          have e1 := EB.out j hj
          have px := PX.out j hlt
          have py := PY.out j hlt
          rw [getD_at xs j hlt, getD_at ys j hlt'] at ENj
          rw [getD_at xs j hlt] at px
          rw [getD_at ys j hlt'] at py
          generalize xs[j] = x at *
          generalize ys[j] = y at *
          obtain ⟨x0, x1⟩ := x
          obtain ⟨y0, y1⟩ := y
          simp only at c0 c1 d0 d1 ENj px py
          have sb := sqd_bd px py
          have FA := Lib.hid (fun w => far_any x0 x1 y0 y1 w px py)
          clear px py
          generalize sqd x0 x1 y0 y1 = s at *
          have M := Lib.hid (fun w => l00Max_any (En j) s w)
          have hm : (if s < En j then En j else s) = En (j + 1) := by
            rw [ENj]
            split <;> split <;> omega
          rw [hm] at M
          clear ENj hm
          generalize hE1 : En (j + 1) = e2 at *
          have HE1 := Lib.hid hE1
          clear hE1
          generalize En j = e0 at *
          have K : Hid ((fun X => X.cell? ⟨w.heap.size, 2, none⟩ = some (.slice (some ⟨g, 0, none⟩) xs.length cap) ∧ X.cell? ⟨w.heap.size + 1, 2, none⟩ = some (.slice (some ⟨g', 0, none⟩) ys.length cap') ∧ X.cell? ⟨g, j * 2, none⟩ = some (.int .i64 x0) ∧ X.cell? ⟨g, j * 2 + 1, none⟩ = some (.int .i64 x1) ∧ X.cell? ⟨g', j * 2, none⟩ = some (.int .i64 y0) ∧ X.cell? ⟨g', j * 2 + 1, none⟩ = some (.int .i64 y1) ∧ Below w4.heap.size w4 X) wr) := Lib.hid ⟨a2, b2, c0, c1, d0, d1, HR.out⟩
          have hrs := HR.out.size
          go_wp2_with fail
          go_region_held3 (fun X => X.cell? ⟨w.heap.size, 2, none⟩ = some (.slice (some ⟨g, 0, none⟩) xs.length cap) ∧ X.cell? ⟨w.heap.size + 1, 2, none⟩ = some (.slice (some ⟨g', 0, none⟩) ys.length cap') ∧ X.cell? ⟨g, j * 2, none⟩ = some (.int .i64 x0) ∧ X.cell? ⟨g, j * 2 + 1, none⟩ = some (.int .i64 x1) ∧ X.cell? ⟨g', j * 2, none⟩ = some (.int .i64 y0) ∧ X.cell? ⟨g', j * 2 + 1, none⟩ = some (.int .i64 y1) ∧ Below w4.heap.size w4 X) (first | (exact keepG6 K.out hrs (drewG wr)) | (exact keepG6 K.out hrs y5) | go_keep) ((first
            | (go_at_call 64; (refine (FA.out _).mono ?_); rintro e x5 ⟨rfl, hb5⟩; have y5 := undrewG hb5)
            | (go_at_call 63; (refine (M.out _).mono ?_); rintro e x6 ⟨rfl, rfl⟩)))
          all_goals
            rename_i held
            have HR5 := Lib.hid (HR.out.trans (y5.mono HR.out.size))
            clear held hb5 y5 c0 c1 d0 d1 a2 b2
            go_wp2_with fail
            go_roundg (xs.length + 1 - (j + 1))
            case measure => omega
            case rel => exact ⟨j + 1, by rw [HE1.out], by go_num, by omega, by omega, HR5⟩
        · obtain rfl : j = xs.length := by omega
          go_wp2_with fail
          refine (RT.out _).mono ?_
          rintro e w9 ⟨rfl, rfl⟩
          go_wp2_with fail
          go_ret2
          exact ⟨rfl, HW.out⟩

set_option maxRecDepth 100000 in
set_option maxHeartbeats 4000000 in
theorem implMove_any (c r c' r' : Int) (g g' cap cap' : Nat) (xs ys : List V) (w : World) (hb : xs.length ≤ 1048577) (hb2 : ys.length ≤ 1048577) (h1 : Row w g xs) (h2 : Row w g' ys) :
    Calls Try.prog 21 #[.agg #[.int .i64 c, .int .i64 r, .slice (some ⟨g, 0, none⟩) xs.length cap], .agg #[.int .i64 c', .int .i64 r', .slice (some ⟨g', 0, none⟩) ys.length cap']] w (NPost (moveV c r c' r' xs ys) w) := by
  have V1 := Lib.hid (fun (W : World) (hB : Below w.heap.size w W) => validMesh_any c r g cap xs W hb (h1.below hB))
  have V2 := Lib.hid (fun (W : World) (hB : Below w.heap.size w W) => validMesh_any c' r' g' cap' ys W hb2 (h2.below hB))
  have H1 := Lib.hid (fun (W : World) (hB : Below w.heap.size w W) => h1.below hB)
  have H2 := Lib.hid (fun (W : World) (hB : Below w.heap.size w W) => h2.below hB)
  clear h1 h2
  unfold moveV
  cases ho : meshB c r xs with
  | false =>
    rw [if_neg (by simp)]
    rw [ho] at V1
    clear ho V2 H1 H2
    go_enter Try.func21, Try.ntmps21
    go_wp2_with fail
    obtain ⟨W1, hW1⟩ : ∃ W, W = w.alloc (Obj.cells #[.int .i64 c, .int .i64 r, .slice (some ⟨g, 0, none⟩) xs.length cap] 29) := ⟨_, rfl⟩
    rw [← hW1]
    have hb1 : Below w.heap.size w W1 := by rw [hW1]; exact (Below.refl _ _).alloc (Nat.le_refl _) _
    have hz1 : W1.heap.size = w.heap.size + 1 := by rw [hW1]; simp
    have M1 : MAt W1 w.heap.size c r (.slice (some ⟨g, 0, none⟩) xs.length cap) := by rw [hW1]; exact MAt.new _ _ _ _ _
    obtain ⟨W2, hW2⟩ : ∃ W, W = W1.alloc (Obj.cells #[.int .i64 c', .int .i64 r', .slice (some ⟨g', 0, none⟩) ys.length cap'] 29) := ⟨_, rfl⟩
    rw [← hW2]
    have hb2 : Below w.heap.size w W2 := by rw [hW2]; exact hb1.alloc hb1.size _
    have M1b : MAt W2 w.heap.size c r (.slice (some ⟨g, 0, none⟩) xs.length cap) := by rw [hW2]; exact M1.below ((Below.refl _ _).alloc (Nat.le_refl _) _)
    have M2b : MAt W2 (w.heap.size + 1) c' r' (.slice (some ⟨g', 0, none⟩) ys.length cap') := by rw [hW2, ← hz1]; exact MAt.new _ _ _ _ _
    have HB2 := Lib.hid hb2
    have MA2 := Lib.hid M1b
    have MB2 := Lib.hid M2b
    clear hW1 hW2 hb1 hb2 hz1 M1 M1b M2b
    obtain ⟨a0, a1, a2⟩ := MA2.out
    obtain ⟨b0, b1, b2⟩ := MB2.out
    go_wp2_with fail
    refine (V1.out _ HB2.out).mono ?_
    rintro e w3 ⟨rfl, hb⟩
    clear a0 a1 a2 b0 b1 b2
    have HB3 := Lib.hid (HB2.out.trans (hb.mono HB2.out.size))
    have MA3 := Lib.hid (MA2.out.below hb)
    have MB3 := Lib.hid (MB2.out.below hb)
    clear hb MA2 MB2
    go_wp2_with fail
    go_ret2
    exact ⟨rfl, HB3.out⟩
  | true =>
    rw [if_pos rfl]
    rw [ho] at V1
    cases ho2 : meshB c' r' ys with
    | false =>
      rw [if_neg (by simp)]
      rw [ho2] at V2
      clear ho ho2 H1 H2
      go_enter Try.func21, Try.ntmps21
      go_wp2_with fail
      obtain ⟨W1, hW1⟩ : ∃ W, W = w.alloc (Obj.cells #[.int .i64 c, .int .i64 r, .slice (some ⟨g, 0, none⟩) xs.length cap] 29) := ⟨_, rfl⟩
      rw [← hW1]
      have hb1 : Below w.heap.size w W1 := by rw [hW1]; exact (Below.refl _ _).alloc (Nat.le_refl _) _
      have hz1 : W1.heap.size = w.heap.size + 1 := by rw [hW1]; simp
      have M1 : MAt W1 w.heap.size c r (.slice (some ⟨g, 0, none⟩) xs.length cap) := by rw [hW1]; exact MAt.new _ _ _ _ _
      obtain ⟨W2, hW2⟩ : ∃ W, W = W1.alloc (Obj.cells #[.int .i64 c', .int .i64 r', .slice (some ⟨g', 0, none⟩) ys.length cap'] 29) := ⟨_, rfl⟩
      rw [← hW2]
      have hb2 : Below w.heap.size w W2 := by rw [hW2]; exact hb1.alloc hb1.size _
      have M1b : MAt W2 w.heap.size c r (.slice (some ⟨g, 0, none⟩) xs.length cap) := by rw [hW2]; exact M1.below ((Below.refl _ _).alloc (Nat.le_refl _) _)
      have M2b : MAt W2 (w.heap.size + 1) c' r' (.slice (some ⟨g', 0, none⟩) ys.length cap') := by rw [hW2, ← hz1]; exact MAt.new _ _ _ _ _
      have HB2 := Lib.hid hb2
      have MA2 := Lib.hid M1b
      have MB2 := Lib.hid M2b
      clear hW1 hW2 hb1 hb2 hz1 M1 M1b M2b
      obtain ⟨a0, a1, a2⟩ := MA2.out
      obtain ⟨b0, b1, b2⟩ := MB2.out
      go_wp2_with fail
      refine (V1.out _ HB2.out).mono ?_
      rintro e w3 ⟨rfl, hb⟩
      clear a0 a1 a2 b0 b1 b2
      have HB3 := Lib.hid (HB2.out.trans (hb.mono HB2.out.size))
      have MA3 := Lib.hid (MA2.out.below hb)
      have MB3 := Lib.hid (MB2.out.below hb)
      clear hb MA2 MB2
      obtain ⟨a0, a1, a2⟩ := MA3.out
      obtain ⟨b0, b1, b2⟩ := MB3.out
      go_wp2_with fail
      refine (V2.out _ HB3.out).mono ?_
      rintro e w4 ⟨rfl, hb⟩
      clear a0 a1 a2 b0 b1 b2
      have HB4 := Lib.hid (HB3.out.trans (hb.mono HB3.out.size))
      have MA4 := Lib.hid (MA3.out.below hb)
      have MB4 := Lib.hid (MB3.out.below hb)
      clear hb MA3 MB3
      go_wp2_with fail
      go_ret2
      exact ⟨rfl, HB4.out⟩
    | true =>
      rw [if_pos rfl]
      rw [ho2] at V2
      by_cases hs : c = c' ∧ r = r'
      case neg =>
        rw [if_neg hs]
        clear ho ho2 H1 H2
        have HS : Hid (∀ (u u' : Value) (w : World), Calls Try.prog 59 #[.agg #[.int .i64 c, .int .i64 r, u], .agg #[.int .i64 c', .int .i64 r', u']] w fun e w' => e = .returned (.bool false) ∧ Below w.heap.size w w') := Lib.hid (by
          intro u u' w
          have h := hasSize_any c r c' r' u u' w
          have hd : (decide (c = c') && decide (r = r')) = false := by
            by_cases hc : c = c'
            · have hr : ¬ r = r' := fun h => hs ⟨hc, h⟩
              simp [hr]
            · simp [hc]
          rw [hd] at h
          exact h)
        clear hs
        go_enter Try.func21, Try.ntmps21
        go_wp2_with fail
        obtain ⟨W1, hW1⟩ : ∃ W, W = w.alloc (Obj.cells #[.int .i64 c, .int .i64 r, .slice (some ⟨g, 0, none⟩) xs.length cap] 29) := ⟨_, rfl⟩
        rw [← hW1]
        have hb1 : Below w.heap.size w W1 := by rw [hW1]; exact (Below.refl _ _).alloc (Nat.le_refl _) _
        have hz1 : W1.heap.size = w.heap.size + 1 := by rw [hW1]; simp
        have M1 : MAt W1 w.heap.size c r (.slice (some ⟨g, 0, none⟩) xs.length cap) := by rw [hW1]; exact MAt.new _ _ _ _ _
        obtain ⟨W2, hW2⟩ : ∃ W, W = W1.alloc (Obj.cells #[.int .i64 c', .int .i64 r', .slice (some ⟨g', 0, none⟩) ys.length cap'] 29) := ⟨_, rfl⟩
        rw [← hW2]
        have hb2 : Below w.heap.size w W2 := by rw [hW2]; exact hb1.alloc hb1.size _
        have M1b : MAt W2 w.heap.size c r (.slice (some ⟨g, 0, none⟩) xs.length cap) := by rw [hW2]; exact M1.below ((Below.refl _ _).alloc (Nat.le_refl _) _)
        have M2b : MAt W2 (w.heap.size + 1) c' r' (.slice (some ⟨g', 0, none⟩) ys.length cap') := by rw [hW2, ← hz1]; exact MAt.new _ _ _ _ _
        have HB2 := Lib.hid hb2
        have MA2 := Lib.hid M1b
        have MB2 := Lib.hid M2b
        clear hW1 hW2 hb1 hb2 hz1 M1 M1b M2b
        obtain ⟨a0, a1, a2⟩ := MA2.out
        obtain ⟨b0, b1, b2⟩ := MB2.out
        go_wp2_with fail
        refine (V1.out _ HB2.out).mono ?_
        rintro e w3 ⟨rfl, hb⟩
        clear a0 a1 a2 b0 b1 b2
        have HB3 := Lib.hid (HB2.out.trans (hb.mono HB2.out.size))
        have MA3 := Lib.hid (MA2.out.below hb)
        have MB3 := Lib.hid (MB2.out.below hb)
        clear hb MA2 MB2
        obtain ⟨a0, a1, a2⟩ := MA3.out
        obtain ⟨b0, b1, b2⟩ := MB3.out
        go_wp2_with fail
        refine (V2.out _ HB3.out).mono ?_
        rintro e w4 ⟨rfl, hb⟩
        clear a0 a1 a2 b0 b1 b2
        have HB4 := Lib.hid (HB3.out.trans (hb.mono HB3.out.size))
        have MA4 := Lib.hid (MA3.out.below hb)
        have MB4 := Lib.hid (MB3.out.below hb)
        clear hb MA3 MB3
        obtain ⟨a0, a1, a2⟩ := MA4.out
        obtain ⟨b0, b1, b2⟩ := MB4.out
        go_wp2_with fail
        refine (HS.out _ _ _).mono ?_
        rintro e w5 ⟨rfl, hb⟩
        clear a0 a1 a2 b0 b1 b2
        have HB5 := Lib.hid (HB4.out.trans (hb.mono HB4.out.size))
        have MA5 := Lib.hid (MA4.out.below hb)
        have MB5 := Lib.hid (MB4.out.below hb)
        clear hb MA4 MB4
        go_wp2_with fail
        go_ret2
        exact ⟨rfl, HB5.out⟩
      rw [if_pos hs]
      obtain ⟨rfl, rfl⟩ := hs
      have hl : xs.length = ys.length := by have a := meshB_len ho; have b := meshB_len ho2; omega
      have PX := Lib.hid (meshB_pl ho)
      have PY := Lib.hid (fun j (hj : j < xs.length) => meshB_pl ho2 j (by omega))
      have EB := Lib.hid (mvN_bd PX.out PY.out)
      have EN : Hid (∀ j, mvN xs ys (j + 1) = if mvN xs ys j < sqd (xs.getD j zero).f0 (xs.getD j zero).f1 (ys.getD j zero).f0 (ys.getD j zero).f1 then sqd (xs.getD j zero).f0 (xs.getD j zero).f1 (ys.getD j zero).f0 (ys.getD j zero).f1 else mvN xs ys j) := Lib.hid (fun _ => rfl)
      have E0 : mvN xs ys 0 = 0 := rfl
      have HL := Lib.hid hl
      have RT := Lib.hid (fun w => implRootI_any (mvN xs ys xs.length) w (by have := EB.out xs.length (Nat.le_refl _); omega))
      generalize rootI (mvN xs ys xs.length) = root at *
      clear ho ho2 hl
      generalize mvN xs ys = En at *
      have HS : Hid (∀ (u u' : Value) (w : World), Calls Try.prog 59 #[.agg #[.int .i64 c, .int .i64 r, u], .agg #[.int .i64 c, .int .i64 r, u']] w fun e w' => e = .returned (.bool true) ∧ Below w.heap.size w w') := Lib.hid (by
        intro u u' w
        have h := hasSize_any c r c r u u' w
        simpa using h)
      go_enter Try.func21, Try.ntmps21
      go_wp2_with fail
      obtain ⟨W1, hW1⟩ : ∃ W, W = w.alloc (Obj.cells #[.int .i64 c, .int .i64 r, .slice (some ⟨g, 0, none⟩) xs.length cap] 29) := ⟨_, rfl⟩
      rw [← hW1]
      have hb1 : Below w.heap.size w W1 := by rw [hW1]; exact (Below.refl _ _).alloc (Nat.le_refl _) _
      have hz1 : W1.heap.size = w.heap.size + 1 := by rw [hW1]; simp
      have M1 : MAt W1 w.heap.size c r (.slice (some ⟨g, 0, none⟩) xs.length cap) := by rw [hW1]; exact MAt.new _ _ _ _ _
      obtain ⟨W2, hW2⟩ : ∃ W, W = W1.alloc (Obj.cells #[.int .i64 c, .int .i64 r, .slice (some ⟨g', 0, none⟩) ys.length cap'] 29) := ⟨_, rfl⟩
      rw [← hW2]
      have hb2 : Below w.heap.size w W2 := by rw [hW2]; exact hb1.alloc hb1.size _
      have M1b : MAt W2 w.heap.size c r (.slice (some ⟨g, 0, none⟩) xs.length cap) := by rw [hW2]; exact M1.below ((Below.refl _ _).alloc (Nat.le_refl _) _)
      have M2b : MAt W2 (w.heap.size + 1) c r (.slice (some ⟨g', 0, none⟩) ys.length cap') := by rw [hW2, ← hz1]; exact MAt.new _ _ _ _ _
      have HB2 := Lib.hid hb2
      have MA2 := Lib.hid M1b
      have MB2 := Lib.hid M2b
      clear hW1 hW2 hb1 hb2 hz1 M1 M1b M2b
      obtain ⟨a0, a1, a2⟩ := MA2.out
      obtain ⟨b0, b1, b2⟩ := MB2.out
      go_wp2_with fail
      refine (V1.out _ HB2.out).mono ?_
      rintro e w3 ⟨rfl, hb⟩
      clear a0 a1 a2 b0 b1 b2
      have HB3 := Lib.hid (HB2.out.trans (hb.mono HB2.out.size))
      have MA3 := Lib.hid (MA2.out.below hb)
      have MB3 := Lib.hid (MB2.out.below hb)
      clear hb MA2 MB2
      obtain ⟨a0, a1, a2⟩ := MA3.out
      obtain ⟨b0, b1, b2⟩ := MB3.out
      go_wp2_with fail
      refine (V2.out _ HB3.out).mono ?_
      rintro e w4 ⟨rfl, hb⟩
      clear a0 a1 a2 b0 b1 b2
      have HB4 := Lib.hid (HB3.out.trans (hb.mono HB3.out.size))
      have MA4 := Lib.hid (MA3.out.below hb)
      have MB4 := Lib.hid (MB3.out.below hb)
      clear hb MA3 MB3
      obtain ⟨a0, a1, a2⟩ := MA4.out
      obtain ⟨b0, b1, b2⟩ := MB4.out
      go_wp2_with fail
      refine (HS.out _ _ _).mono ?_
      rintro e w5 ⟨rfl, hb⟩
      clear a0 a1 a2 b0 b1 b2
      have HB5 := Lib.hid (HB4.out.trans (hb.mono HB4.out.size))
      have MA5 := Lib.hid (MA4.out.below hb)
      have MB5 := Lib.hid (MB4.out.below hb)
      clear hb MA4 MB4
      obtain ⟨a0, a1, a2⟩ := MA5.out
      obtain ⟨b0, b1, b2⟩ := MB5.out
      go_wp2_with fail
      clear a0 a1 a2 b0 b1 b2
      have NB : Hid (Below w5.heap.size w5 w5) := Lib.hid (Below.refl _ _)
      go_loopg [6, 26] (xs.length + 1) (fun kx s6 s7 wr => ∃ j : Nat, s6 = .int .i64 (En j) ∧ s7 = .int .i64 (j : Int) ∧ j ≤ xs.length ∧ kx = xs.length + 1 - j ∧ Hid (Below w5.heap.size w5 wr))
      case atStart => exact ⟨0, by rw [E0], rfl, Nat.zero_le _, rfl, NB⟩
      case round =>
        obtain ⟨j, rfl, rfl, hj, rfl, HR⟩ := hrel
        have HW := Lib.hid (HB5.out.trans (HR.out.mono HB5.out.size))
        obtain ⟨-, -, a2⟩ := MA5.out.below HR.out
        obtain ⟨-, -, b2⟩ := MB5.out.below HR.out
        by_cases hlt : j < xs.length
        · have hlt' : j < ys.length := by rw [← HL.out]; exact hlt
          have j0 : (0 : Int) ≤ (j : Int) := by omega
          have j1 : (j : Int) < (xs.length : Int) := by omega
          have j2 : (j : Int) < (ys.length : Int) := by omega
          obtain ⟨c0, c1⟩ := (H1.out wr HW.out).at j hlt
          obtain ⟨d0, d1⟩ := (H2.out wr HW.out).at j hlt'
          have ENj := EN.out j
          have e1 := EB.out j hj
          have px := PX.out j hlt
          have py := PY.out j hlt
          rw [getD_at xs j hlt, getD_at ys j hlt'] at ENj
          rw [getD_at xs j hlt] at px
          rw [getD_at ys j hlt'] at py
          generalize xs[j] = x at *
          generalize ys[j] = y at *
          obtain ⟨x0, x1⟩ := x
          obtain ⟨y0, y1⟩ := y
          simp only at c0 c1 d0 d1 ENj px py
          have sb := sqd_bd px py
          have FA := Lib.hid (fun w => squareTo_any x0 x1 y0 y1 w px py)
          clear px py
          generalize sqd x0 x1 y0 y1 = s at *
          have hgl := World.block_lt_of_cell? wr ⟨g', j * 2, none⟩ d0
          have hbl := World.block_lt_of_cell? wr ⟨w.heap.size + 1, 2, none⟩ b2
          simp only at hgl hbl
          by_cases hc : En j < s
          · rw [if_pos hc] at ENj
            have hc2 : ¬ s ≤ En j := by omega
            have hc3 : En j ≤ s := by omega
            have hc4 : ¬ s < En j := by omega
            generalize hE1 : En (j + 1) = e2 at *
            have HE1 := Lib.hid hE1
            clear hE1
            generalize En j = e0 at *
            subst ENj
            go_wp2_with fail
            obtain ⟨W5, hW5⟩ : ∃ W, W = wr.alloc (Obj.cells #[.int .i64 x0, .int .i64 x1] 53) := ⟨_, rfl⟩
            rw [← hW5]
            have hb6 : Below wr.heap.size wr W5 := by rw [hW5]; exact (Below.refl _ _).alloc (Nat.le_refl _) _
            have PA : PAt W5 wr.heap.size x0 x1 := by rw [hW5]; exact PAt.new _ _ _ _
            obtain ⟨p0, p1⟩ := PA
            have q2 := (hb6.cell (p := ⟨w.heap.size + 1, 2, none⟩) hbl).trans b2
            have r0 := (hb6.cell (p := ⟨g', j * 2, none⟩) hgl).trans d0
            have r1 := (hb6.cell (p := ⟨g', j * 2 + 1, none⟩) hgl).trans d1
            have hR6 := HR.out.trans (hb6.mono HR.out.size)
            have K : Hid ((fun X => X.cell? ⟨wr.heap.size, 0, none⟩ = some (.int .i64 x0) ∧ X.cell? ⟨wr.heap.size, 1, none⟩ = some (.int .i64 x1) ∧ X.cell? ⟨w.heap.size + 1, 2, none⟩ = some (.slice (some ⟨g', 0, none⟩) ys.length cap') ∧ X.cell? ⟨g', j * 2, none⟩ = some (.int .i64 y0) ∧ X.cell? ⟨g', j * 2 + 1, none⟩ = some (.int .i64 y1) ∧ Below w5.heap.size w5 X) W5) := Lib.hid ⟨p0, p1, q2, r0, r1, hR6⟩
            have hrs := hR6.size
            have HR6 := Lib.hid hR6
            clear hW5 hR6 hb6 a2 b2 c0 c1 d0 d1
            go_region_held3 (fun X => X.cell? ⟨wr.heap.size, 0, none⟩ = some (.int .i64 x0) ∧ X.cell? ⟨wr.heap.size, 1, none⟩ = some (.int .i64 x1) ∧ X.cell? ⟨w.heap.size + 1, 2, none⟩ = some (.slice (some ⟨g', 0, none⟩) ys.length cap') ∧ X.cell? ⟨g', j * 2, none⟩ = some (.int .i64 y0) ∧ X.cell? ⟨g', j * 2 + 1, none⟩ = some (.int .i64 y1) ∧ Below w5.heap.size w5 X) (first | (exact keepG5 K.out hrs (drewG W5)) | (exact keepG5 K.out hrs y5) | go_keep) ((first
              | (go_at_call 67; (refine (FA.out _).mono ?_); rintro e x5 ⟨rfl, hb5⟩; have y5 := undrewG hb5)))
            all_goals
              rename_i held
              have HR5 := Lib.hid (HR6.out.trans (y5.mono HR6.out.size))
              clear held hb5 y5 p0 p1 q2 r0 r1
              go_wp2_with fail
              go_roundg (xs.length + 1 - (j + 1))
              case measure => omega
              case rel => exact ⟨j + 1, by rw [HE1.out, Int.max_eq_right hc3], by go_num, by omega, by omega, HR5⟩
          · rw [if_neg hc] at ENj
            have hc2 : s ≤ En j := by omega
            generalize hE1 : En (j + 1) = e2 at *
            have HE1 := Lib.hid hE1
            clear hE1
            generalize En j = e0 at *
            subst ENj
            go_wp2_with fail
            obtain ⟨W5, hW5⟩ : ∃ W, W = wr.alloc (Obj.cells #[.int .i64 x0, .int .i64 x1] 53) := ⟨_, rfl⟩
            rw [← hW5]
            have hb6 : Below wr.heap.size wr W5 := by rw [hW5]; exact (Below.refl _ _).alloc (Nat.le_refl _) _
            have PA : PAt W5 wr.heap.size x0 x1 := by rw [hW5]; exact PAt.new _ _ _ _
            obtain ⟨p0, p1⟩ := PA
            have q2 := (hb6.cell (p := ⟨w.heap.size + 1, 2, none⟩) hbl).trans b2
            have r0 := (hb6.cell (p := ⟨g', j * 2, none⟩) hgl).trans d0
            have r1 := (hb6.cell (p := ⟨g', j * 2 + 1, none⟩) hgl).trans d1
            have hR6 := HR.out.trans (hb6.mono HR.out.size)
            have K : Hid ((fun X => X.cell? ⟨wr.heap.size, 0, none⟩ = some (.int .i64 x0) ∧ X.cell? ⟨wr.heap.size, 1, none⟩ = some (.int .i64 x1) ∧ X.cell? ⟨w.heap.size + 1, 2, none⟩ = some (.slice (some ⟨g', 0, none⟩) ys.length cap') ∧ X.cell? ⟨g', j * 2, none⟩ = some (.int .i64 y0) ∧ X.cell? ⟨g', j * 2 + 1, none⟩ = some (.int .i64 y1) ∧ Below w5.heap.size w5 X) W5) := Lib.hid ⟨p0, p1, q2, r0, r1, hR6⟩
            have hrs := hR6.size
            have HR6 := Lib.hid hR6
            clear hW5 hR6 hb6 a2 b2 c0 c1 d0 d1
            go_region_held3 (fun X => X.cell? ⟨wr.heap.size, 0, none⟩ = some (.int .i64 x0) ∧ X.cell? ⟨wr.heap.size, 1, none⟩ = some (.int .i64 x1) ∧ X.cell? ⟨w.heap.size + 1, 2, none⟩ = some (.slice (some ⟨g', 0, none⟩) ys.length cap') ∧ X.cell? ⟨g', j * 2, none⟩ = some (.int .i64 y0) ∧ X.cell? ⟨g', j * 2 + 1, none⟩ = some (.int .i64 y1) ∧ Below w5.heap.size w5 X) (first | (exact keepG5 K.out hrs (drewG W5)) | (exact keepG5 K.out hrs y5) | go_keep) ((first
              | (go_at_call 67; (refine (FA.out _).mono ?_); rintro e x5 ⟨rfl, hb5⟩; have y5 := undrewG hb5)))
            all_goals
              rename_i held
              have HR5 := Lib.hid (HR6.out.trans (y5.mono HR6.out.size))
              clear held hb5 y5 p0 p1 q2 r0 r1
              go_wp2_with fail
              go_roundg (xs.length + 1 - (j + 1))
              case measure => omega
              case rel => exact ⟨j + 1, by rw [HE1.out, Int.max_eq_left hc2], by go_num, by omega, by omega, HR5⟩
        · obtain rfl : j = xs.length := by omega
          go_wp2_with fail
          refine (RT.out _).mono ?_
          rintro e w9 ⟨rfl, rfl⟩
          go_wp2_with fail
          go_ret2
          exact ⟨rfl, HW.out⟩
end Go.Proofs.Ytleaoemckdkndaa.Me
