/-
  Time codes: valid codes and the numbers of codes (both packages).
-/
import Derived.Test.YtecnhbgkkfcipaaTcZ
namespace Go.Proofs.Ytecnhbgkkfcipaa.Tc
open Go.RowKit
open Cd (At BAt)
set_option linter.unusedVariables false

theorem new_at (W : World) (c : Array Value) (T : TypeId) (k : Nat) (v : Value) (b : Nat) (hb : b = W.heap.size) (hv : c[k]? = some v) : (W.alloc (.cells c T)).cell? ⟨b, k, none⟩ = some v := by
  subst hb
  rw [World.cell?_alloc_at _ _ _ _ rfl]
  exact hv
theorem ok_plain (h m s f r : Int) (hr : r = 24 ∨ r = 25) : okT h m s f r = (inR 0 23 [h] && (inR 0 59 [m, s] && inR 0 (r - 1) [f])) := by
  rw [inR_2]
  unfold okT
  rcases hr with rfl | rfl
  · simp [isR, Bool.and_assoc]
  · simp [isR, Bool.and_assoc]
theorem ok_drop (h m s f : Int) (hs : s ≠ 0 ∨ ¬ f < leftN 30 m) : okT h m s f 30 = (inR 0 23 [h] && (inR 0 59 [m, s] && inR 0 29 [f])) := by
  rw [inR_2]
  unfold okT
  have e : isR 30 = true := rfl
  rw [e, Bool.true_and]
  cases inR 0 23 [h] with
  | false => rfl
  | true =>
    rw [Bool.true_and, Bool.true_and]
    cases inR 0 59 [m] with
    | false => rfl
    | true =>
      rw [Bool.true_and, Bool.true_and]
      cases hS : inR 0 59 [s] with
      | false => rfl
      | true =>
        rw [Bool.true_and, Bool.true_and]
        cases hF : inR 0 (30 - 1) [f] with
        | false => have : inR 0 29 [f] = false := hF; rw [this]; rfl
        | true =>
          have : inR 0 29 [f] = true := hF
          rw [this]
          have s0 := (inR_1 _ _ _).1 hS
          have f0 := (inR_1 _ _ _).1 hF
          simp only [decide_true, Bool.not_true, Bool.false_or, Bool.true_and, Bool.or_eq_true, decide_eq_true_eq]
          unfold leftN at hs
          rw [if_pos rfl] at hs
          by_cases c : m % 10 = 0
          · exact Or.inl c
          · rw [if_neg c] at hs
            omega
theorem ok_lost (h m f : Int) (hl : f < leftN 30 m) : okT h m 0 f 30 = false := by
  cases hk : okT h m 0 f 30 with
  | false => rfl
  | true =>
    exfalso
    have b := okT_bd hk
    unfold okT at hk
    simp only [Bool.and_eq_true] at hk
    have hd := hk.2.2.2.2.2
    simp only [decide_true, Bool.not_true, Bool.false_or, Bool.or_eq_true, decide_eq_true_eq] at hd
    unfold leftN at hl
    rw [if_pos rfl] at hl
    by_cases c : m % 10 = 0
    · rw [if_pos c] at hl; omega
    · rw [if_neg c] at hl; omega
theorem ok_no (h m s f r : Int) (hr : isR r = false) : okT h m s f r = false := by unfold okT; rw [hr]; rfl
set_option maxRecDepth 100000 in
set_option maxHeartbeats 4000000 in
theorem valid_any (h m s f r : Int) (fm : fits m) (w : World) :
    Calls Try.prog 16 #[.agg #[.int .i64 h, .int .i64 m, .int .i64 s, .int .i64 f, .int .i64 r]] w fun e w' => e = .returned (.bool (okT h m s f r)) ∧ Below w.heap.size w w' := by
  by_cases r30 : r = 30
  · subst r30
    by_cases s0 : s = 0
    · subst s0
      have RT := Lib.hid (fun w => rateOf_any h m 0 f 30 w)
      have LE := Lib.hid (fun w => toB (left_all 30 m fm w))
      obtain ⟨W1, hW1⟩ : ∃ W, W = w.alloc (Obj.cells #[Value.int .i64 h, .int .i64 m, .int .i64 0, .int .i64 f, .int .i64 30] 25) := ⟨_, rfl⟩
      have K : Hid (W1.cell? ⟨w.heap.size, 0, none⟩ = some (.int .i64 h) ∧ W1.cell? ⟨w.heap.size, 1, none⟩ = some (.int .i64 m) ∧ W1.cell? ⟨w.heap.size, 2, none⟩ = some (.int .i64 0) ∧ W1.cell? ⟨w.heap.size, 3, none⟩ = some (.int .i64 f) ∧ W1.cell? ⟨w.heap.size, 4, none⟩ = some (.int .i64 30) ∧ Below w.heap.size w W1) := Lib.hid (by rw [hW1]; exact ⟨by simp, by simp, by simp, by simp, by simp, (Below.refl _ _).alloc (Nat.le_refl _) _⟩)
      have HW := Lib.hid hW1
      clear hW1
      by_cases fl : f < leftN 30 m
      · rw [ok_lost h m f fl]
        have fd : decide (f < leftN 30 m) = true := decide_eq_true fl
        generalize leftN 30 m = ln at *
        go_enter Try.func16, Try.ntmps16
        go_wp2_with fail
        rw [← HW.out]
        clear HW
        obtain ⟨k0, k1, k2, k3, k4, kb⟩ := K.out
        go_region_held3 (fun W => W.cell? ⟨w.heap.size, 0, none⟩ = some (.int .i64 h) ∧ W.cell? ⟨w.heap.size, 1, none⟩ = some (.int .i64 m) ∧ W.cell? ⟨w.heap.size, 2, none⟩ = some (.int .i64 0) ∧ W.cell? ⟨w.heap.size, 3, none⟩ = some (.int .i64 f) ∧ W.cell? ⟨w.heap.size, 4, none⟩ = some (.int .i64 30) ∧ Below w.heap.size w W) (first | (exact keepW5 K.out (drewG W1)) | (exact keepW5 K.out y2) | (exact keepW5 K.out y1) | go_keep) ((first
          | (go_at_call 47; refine (LE.out _).mono ?_; rintro e x2 ⟨rfl, hx2⟩; have y2 := y1.trans (hx2.mono y1.size))
          | (go_at_call 46; refine (RT.out _).mono ?_; rintro e x1 ⟨rfl, hx1⟩; have y1 := undrewG hx1)))
        rename_i held
        have HB := Lib.hid held.2.2.2.2.2
        obtain ⟨c0, c1, c2, c3, c4, _⟩ := held
        have hsx := y2.size
        have bsx : w.heap.size < W1.heap.size := World.block_lt_of_cell? W1 ⟨w.heap.size, 0, none⟩ k0
        have hzx : w.heap.size < x2.heap.size := by omega
        clear K k0 k1 k2 k3 k4 kb y1 y2 hx1 hx2 hsx bsx
        go_wp2_with fail
        go_ret
        exact ⟨rfl, HB.out⟩
      · rw [ok_drop h m 0 f (Or.inr fl)]
        have fd : decide (f < leftN 30 m) = false := decide_eq_false fl
        generalize leftN 30 m = ln at *
        cases a1 : inR 0 23 [h] with
        | false =>
          have I1 := Lib.hid a1
          rw [Bool.false_and]
          go_enter Try.func16, Try.ntmps16
          go_wp2_with fail
          rw [← HW.out]
          clear HW
          obtain ⟨k0, k1, k2, k3, k4, kb⟩ := K.out
          go_region_held3 (fun W => W.cell? ⟨w.heap.size, 0, none⟩ = some (.int .i64 h) ∧ W.cell? ⟨w.heap.size, 1, none⟩ = some (.int .i64 m) ∧ W.cell? ⟨w.heap.size, 2, none⟩ = some (.int .i64 0) ∧ W.cell? ⟨w.heap.size, 3, none⟩ = some (.int .i64 f) ∧ W.cell? ⟨w.heap.size, 4, none⟩ = some (.int .i64 30) ∧ Below w.heap.size w W) (first | (exact keepW5 K.out (drewG W1)) | (exact keepW5 K.out y2) | (exact keepW5 K.out y1) | go_keep) ((first
            | (go_at_call 47; refine (LE.out _).mono ?_; rintro e x2 ⟨rfl, hx2⟩; have y2 := y1.trans (hx2.mono y1.size))
            | (go_at_call 46; refine (RT.out _).mono ?_; rintro e x1 ⟨rfl, hx1⟩; have y1 := undrewG hx1)))
          rename_i held
          have HB := Lib.hid held.2.2.2.2.2
          obtain ⟨c0, c1, c2, c3, c4, _⟩ := held
          have hsx := y2.size
          have bsx : w.heap.size < W1.heap.size := World.block_lt_of_cell? W1 ⟨w.heap.size, 0, none⟩ k0
          have hzx : w.heap.size < x2.heap.size := by omega
          clear K k0 k1 k2 k3 k4 kb y1 y2 hx1 hx2 hsx bsx
          clear a1
          go_wp2_with fail
          refine (within1 _ _ h _ _ _ (by exact new_at _ _ _ _ _ _ (by first | rfl | (simp; done)) rfl)).mono ?_
          rintro e w' ⟨rfl, rfl⟩
          rw [I1.out]
          go_wp2_with fail
          go_ret
          refine ⟨rfl, ?_⟩
          repeat (first | exact Below.refl _ _ | exact HB.out | refine bel_dT ?_ _ | refine Below.alloc ?_ (by first | (simp; done) | omega | (simp; omega)) _)
        | true =>
          have I1 := Lib.hid a1
          clear a1
          rw [Bool.true_and]
          cases a2 : inR 0 59 [m, 0] with
          | false =>
            have I2 := Lib.hid a2
            rw [Bool.false_and]
            clear a2
            go_enter Try.func16, Try.ntmps16
            go_wp2_with fail
            rw [← HW.out]
            clear HW
            obtain ⟨k0, k1, k2, k3, k4, kb⟩ := K.out
            go_region_held3 (fun W => W.cell? ⟨w.heap.size, 0, none⟩ = some (.int .i64 h) ∧ W.cell? ⟨w.heap.size, 1, none⟩ = some (.int .i64 m) ∧ W.cell? ⟨w.heap.size, 2, none⟩ = some (.int .i64 0) ∧ W.cell? ⟨w.heap.size, 3, none⟩ = some (.int .i64 f) ∧ W.cell? ⟨w.heap.size, 4, none⟩ = some (.int .i64 30) ∧ Below w.heap.size w W) (first | (exact keepW5 K.out (drewG W1)) | (exact keepW5 K.out y2) | (exact keepW5 K.out y1) | go_keep) ((first
              | (go_at_call 47; refine (LE.out _).mono ?_; rintro e x2 ⟨rfl, hx2⟩; have y2 := y1.trans (hx2.mono y1.size))
              | (go_at_call 46; refine (RT.out _).mono ?_; rintro e x1 ⟨rfl, hx1⟩; have y1 := undrewG hx1)))
            rename_i held
            have HB := Lib.hid held.2.2.2.2.2
            obtain ⟨c0, c1, c2, c3, c4, _⟩ := held
            have hsx := y2.size
            have bsx : w.heap.size < W1.heap.size := World.block_lt_of_cell? W1 ⟨w.heap.size, 0, none⟩ k0
            have hzx : w.heap.size < x2.heap.size := by omega
            clear K k0 k1 k2 k3 k4 kb y1 y2 hx1 hx2 hsx bsx
            go_wp2_with fail
            refine (within1 _ _ h _ _ _ (by exact new_at _ _ _ _ _ _ (by first | rfl | (simp; done)) rfl)).mono ?_
            rintro e w' ⟨rfl, rfl⟩
            rw [I1.out]
            go_wp2_with fail
            refine (within2 _ _ m 0 _ _ _ (by exact new_at _ _ _ _ _ _ (by first | rfl | (simp; done)) rfl) (by exact new_at _ _ _ _ _ _ (by first | rfl | (simp; done)) rfl)).mono ?_
            rintro e w' ⟨rfl, rfl⟩
            rw [I2.out]
            go_wp2_with fail
            go_ret
            refine ⟨rfl, ?_⟩
            repeat (first | exact Below.refl _ _ | exact HB.out | refine bel_dT ?_ _ | refine Below.alloc ?_ (by first | (simp; done) | omega | (simp; omega)) _)
          | true =>
            have I2 := Lib.hid a2
            clear a2
            rw [Bool.true_and]
            generalize hq : inR 0 29 [f] = q
            have I3 := Lib.hid hq
            clear hq
            go_enter Try.func16, Try.ntmps16
            go_wp2_with fail
            rw [← HW.out]
            clear HW
            obtain ⟨k0, k1, k2, k3, k4, kb⟩ := K.out
            go_region_held3 (fun W => W.cell? ⟨w.heap.size, 0, none⟩ = some (.int .i64 h) ∧ W.cell? ⟨w.heap.size, 1, none⟩ = some (.int .i64 m) ∧ W.cell? ⟨w.heap.size, 2, none⟩ = some (.int .i64 0) ∧ W.cell? ⟨w.heap.size, 3, none⟩ = some (.int .i64 f) ∧ W.cell? ⟨w.heap.size, 4, none⟩ = some (.int .i64 30) ∧ Below w.heap.size w W) (first | (exact keepW5 K.out (drewG W1)) | (exact keepW5 K.out y2) | (exact keepW5 K.out y1) | go_keep) ((first
              | (go_at_call 47; refine (LE.out _).mono ?_; rintro e x2 ⟨rfl, hx2⟩; have y2 := y1.trans (hx2.mono y1.size))
              | (go_at_call 46; refine (RT.out _).mono ?_; rintro e x1 ⟨rfl, hx1⟩; have y1 := undrewG hx1)))
            rename_i held
            have HB := Lib.hid held.2.2.2.2.2
            obtain ⟨c0, c1, c2, c3, c4, _⟩ := held
            have hsx := y2.size
            have bsx : w.heap.size < W1.heap.size := World.block_lt_of_cell? W1 ⟨w.heap.size, 0, none⟩ k0
            have hzx : w.heap.size < x2.heap.size := by omega
            clear K k0 k1 k2 k3 k4 kb y1 y2 hx1 hx2 hsx bsx
            go_wp2_with fail
            refine (within1 _ _ h _ _ _ (by exact new_at _ _ _ _ _ _ (by first | rfl | (simp; done)) rfl)).mono ?_
            rintro e w' ⟨rfl, rfl⟩
            rw [I1.out]
            go_wp2_with fail
            refine (within2 _ _ m 0 _ _ _ (by exact new_at _ _ _ _ _ _ (by first | rfl | (simp; done)) rfl) (by exact new_at _ _ _ _ _ _ (by first | rfl | (simp; done)) rfl)).mono ?_
            rintro e w' ⟨rfl, rfl⟩
            rw [I2.out]
            go_wp2_with fail
            refine (within1 _ _ f _ _ _ (by exact new_at _ _ _ _ _ _ (by first | rfl | (simp; done)) rfl)).mono ?_
            rintro e w' ⟨rfl, rfl⟩
            rw [I3.out]
            go_wp2_with fail
            go_ret
            refine ⟨rfl, ?_⟩
            repeat (first | exact Below.refl _ _ | exact HB.out | refine bel_dT ?_ _ | refine Below.alloc ?_ (by first | (simp; done) | omega | (simp; omega)) _)
    · rw [ok_drop h m s f (Or.inl s0)]
      have sb : (s == 0) = false := beq_eq_false_iff_ne.2 s0
      clear s0
      cases a1 : inR 0 23 [h] with
      | false =>
        have I1 := Lib.hid a1
        rw [Bool.false_and]
        go_enter Try.func16, Try.ntmps16
        go_wp2_with fail
        go_quiet (fail)
        rename Nat => q1
        clear a1
        go_wp2_with fail
        refine (within1 _ _ h _ _ _ (by exact new_at _ _ _ _ _ _ (by first | rfl | (simp; done)) rfl)).mono ?_
        rintro e w' ⟨rfl, rfl⟩
        rw [I1.out]
        go_wp2_with fail
        go_ret
        refine ⟨rfl, ?_⟩
        repeat (first | exact Below.refl _ _ | refine bel_dT ?_ _ | refine Below.alloc ?_ (by first | (simp; done) | omega | (simp; omega)) _)
      | true =>
        have I1 := Lib.hid a1
        clear a1
        rw [Bool.true_and]
        cases a2 : inR 0 59 [m, s] with
        | false =>
          have I2 := Lib.hid a2
          rw [Bool.false_and]
          clear a2
          go_enter Try.func16, Try.ntmps16
          go_wp2_with fail
          go_quiet (fail)
          rename Nat => q1
          go_wp2_with fail
          refine (within1 _ _ h _ _ _ (by exact new_at _ _ _ _ _ _ (by first | rfl | (simp; done)) rfl)).mono ?_
          rintro e w' ⟨rfl, rfl⟩
          rw [I1.out]
          go_wp2_with fail
          refine (within2 _ _ m s _ _ _ (by exact new_at _ _ _ _ _ _ (by first | rfl | (simp; done)) rfl) (by exact new_at _ _ _ _ _ _ (by first | rfl | (simp; done)) rfl)).mono ?_
          rintro e w' ⟨rfl, rfl⟩
          rw [I2.out]
          go_wp2_with fail
          go_ret
          refine ⟨rfl, ?_⟩
          repeat (first | exact Below.refl _ _ | refine bel_dT ?_ _ | refine Below.alloc ?_ (by first | (simp; done) | omega | (simp; omega)) _)
        | true =>
          have I2 := Lib.hid a2
          clear a2
          rw [Bool.true_and]
          generalize hq : inR 0 29 [f] = q
          have I3 := Lib.hid hq
          clear hq
          go_enter Try.func16, Try.ntmps16
          go_wp2_with fail
          go_quiet (fail)
          rename Nat => q1
          go_wp2_with fail
          refine (within1 _ _ h _ _ _ (by exact new_at _ _ _ _ _ _ (by first | rfl | (simp; done)) rfl)).mono ?_
          rintro e w' ⟨rfl, rfl⟩
          rw [I1.out]
          go_wp2_with fail
          refine (within2 _ _ m s _ _ _ (by exact new_at _ _ _ _ _ _ (by first | rfl | (simp; done)) rfl) (by exact new_at _ _ _ _ _ _ (by first | rfl | (simp; done)) rfl)).mono ?_
          rintro e w' ⟨rfl, rfl⟩
          rw [I2.out]
          go_wp2_with fail
          refine (within1 _ _ f _ _ _ (by exact new_at _ _ _ _ _ _ (by first | rfl | (simp; done)) rfl)).mono ?_
          rintro e w' ⟨rfl, rfl⟩
          rw [I3.out]
          go_wp2_with fail
          go_ret
          refine ⟨rfl, ?_⟩
          repeat (first | exact Below.refl _ _ | refine bel_dT ?_ _ | refine Below.alloc ?_ (by first | (simp; done) | omega | (simp; omega)) _)
  have rb30 : (r == 30) = false := beq_eq_false_iff_ne.2 r30
  by_cases r24 : r = 24
  · subst r24
    rw [ok_plain h m s f 24 (Or.inl rfl)]
    simp only [show (24 : Int) - 1 = 23 from rfl]
    clear r30 rb30
    cases a1 : inR 0 23 [h] with
    | false =>
      have I1 := Lib.hid a1
      rw [Bool.false_and]
      go_enter Try.func16, Try.ntmps16
      clear a1
      go_wp2_with fail
      refine (within1 _ _ h _ _ _ (by exact new_at _ _ _ _ _ _ (by first | rfl | (simp; done)) rfl)).mono ?_
      rintro e w' ⟨rfl, rfl⟩
      rw [I1.out]
      go_wp2_with fail
      go_ret
      refine ⟨rfl, ?_⟩
      repeat (first | exact Below.refl _ _ | refine bel_dT ?_ _ | refine Below.alloc ?_ (by first | (simp; done) | omega | (simp; omega)) _)
    | true =>
      have I1 := Lib.hid a1
      clear a1
      rw [Bool.true_and]
      cases a2 : inR 0 59 [m, s] with
      | false =>
        have I2 := Lib.hid a2
        rw [Bool.false_and]
        clear a2
        go_enter Try.func16, Try.ntmps16
        go_wp2_with fail
        refine (within1 _ _ h _ _ _ (by exact new_at _ _ _ _ _ _ (by first | rfl | (simp; done)) rfl)).mono ?_
        rintro e w' ⟨rfl, rfl⟩
        rw [I1.out]
        go_wp2_with fail
        refine (within2 _ _ m s _ _ _ (by exact new_at _ _ _ _ _ _ (by first | rfl | (simp; done)) rfl) (by exact new_at _ _ _ _ _ _ (by first | rfl | (simp; done)) rfl)).mono ?_
        rintro e w' ⟨rfl, rfl⟩
        rw [I2.out]
        go_wp2_with fail
        go_ret
        refine ⟨rfl, ?_⟩
        repeat (first | exact Below.refl _ _ | refine bel_dT ?_ _ | refine Below.alloc ?_ (by first | (simp; done) | omega | (simp; omega)) _)
      | true =>
        have I2 := Lib.hid a2
        clear a2
        rw [Bool.true_and]
        generalize hq : inR 0 23 [f] = q
        have I3 := Lib.hid hq
        clear hq
        go_enter Try.func16, Try.ntmps16
        go_wp2_with fail
        refine (within1 _ _ h _ _ _ (by exact new_at _ _ _ _ _ _ (by first | rfl | (simp; done)) rfl)).mono ?_
        rintro e w' ⟨rfl, rfl⟩
        rw [I1.out]
        go_wp2_with fail
        refine (within2 _ _ m s _ _ _ (by exact new_at _ _ _ _ _ _ (by first | rfl | (simp; done)) rfl) (by exact new_at _ _ _ _ _ _ (by first | rfl | (simp; done)) rfl)).mono ?_
        rintro e w' ⟨rfl, rfl⟩
        rw [I2.out]
        go_wp2_with fail
        refine (within1 _ _ f _ _ _ (by exact new_at _ _ _ _ _ _ (by first | rfl | (simp; done)) rfl)).mono ?_
        rintro e w' ⟨rfl, rfl⟩
        rw [I3.out]
        go_wp2_with fail
        go_ret
        refine ⟨rfl, ?_⟩
        repeat (first | exact Below.refl _ _ | refine bel_dT ?_ _ | refine Below.alloc ?_ (by first | (simp; done) | omega | (simp; omega)) _)
  have rb24 : (r == 24) = false := beq_eq_false_iff_ne.2 r24
  by_cases r25 : r = 25
  · subst r25
    rw [ok_plain h m s f 25 (Or.inr rfl)]
    simp only [show (25 : Int) - 1 = 24 from rfl]
    clear r30 rb30 r24 rb24
    cases a1 : inR 0 23 [h] with
    | false =>
      have I1 := Lib.hid a1
      rw [Bool.false_and]
      go_enter Try.func16, Try.ntmps16
      clear a1
      go_wp2_with fail
      refine (within1 _ _ h _ _ _ (by exact new_at _ _ _ _ _ _ (by first | rfl | (simp; done)) rfl)).mono ?_
      rintro e w' ⟨rfl, rfl⟩
      rw [I1.out]
      go_wp2_with fail
      go_ret
      refine ⟨rfl, ?_⟩
      repeat (first | exact Below.refl _ _ | refine bel_dT ?_ _ | refine Below.alloc ?_ (by first | (simp; done) | omega | (simp; omega)) _)
    | true =>
      have I1 := Lib.hid a1
      clear a1
      rw [Bool.true_and]
      cases a2 : inR 0 59 [m, s] with
      | false =>
        have I2 := Lib.hid a2
        rw [Bool.false_and]
        clear a2
        go_enter Try.func16, Try.ntmps16
        go_wp2_with fail
        refine (within1 _ _ h _ _ _ (by exact new_at _ _ _ _ _ _ (by first | rfl | (simp; done)) rfl)).mono ?_
        rintro e w' ⟨rfl, rfl⟩
        rw [I1.out]
        go_wp2_with fail
        refine (within2 _ _ m s _ _ _ (by exact new_at _ _ _ _ _ _ (by first | rfl | (simp; done)) rfl) (by exact new_at _ _ _ _ _ _ (by first | rfl | (simp; done)) rfl)).mono ?_
        rintro e w' ⟨rfl, rfl⟩
        rw [I2.out]
        go_wp2_with fail
        go_ret
        refine ⟨rfl, ?_⟩
        repeat (first | exact Below.refl _ _ | refine bel_dT ?_ _ | refine Below.alloc ?_ (by first | (simp; done) | omega | (simp; omega)) _)
      | true =>
        have I2 := Lib.hid a2
        clear a2
        rw [Bool.true_and]
        generalize hq : inR 0 24 [f] = q
        have I3 := Lib.hid hq
        clear hq
        go_enter Try.func16, Try.ntmps16
        go_wp2_with fail
        refine (within1 _ _ h _ _ _ (by exact new_at _ _ _ _ _ _ (by first | rfl | (simp; done)) rfl)).mono ?_
        rintro e w' ⟨rfl, rfl⟩
        rw [I1.out]
        go_wp2_with fail
        refine (within2 _ _ m s _ _ _ (by exact new_at _ _ _ _ _ _ (by first | rfl | (simp; done)) rfl) (by exact new_at _ _ _ _ _ _ (by first | rfl | (simp; done)) rfl)).mono ?_
        rintro e w' ⟨rfl, rfl⟩
        rw [I2.out]
        go_wp2_with fail
        refine (within1 _ _ f _ _ _ (by exact new_at _ _ _ _ _ _ (by first | rfl | (simp; done)) rfl)).mono ?_
        rintro e w' ⟨rfl, rfl⟩
        rw [I3.out]
        go_wp2_with fail
        go_ret
        refine ⟨rfl, ?_⟩
        repeat (first | exact Below.refl _ _ | refine bel_dT ?_ _ | refine Below.alloc ?_ (by first | (simp; done) | omega | (simp; omega)) _)
  have rb25 : (r == 25) = false := beq_eq_false_iff_ne.2 r25
  rw [ok_no h m s f r (by unfold isR; simp [r24, r25, r30])]
  clear r24 r25 r30
  go_enter Try.func16, Try.ntmps16
  go_wp2_with fail
  go_ret
  refine ⟨rfl, ?_⟩
  repeat (first | exact Below.refl _ _ | refine Below.setCell ?_ (by first | (simp; done) | omega | (simp; omega)) _ | refine Below.alloc ?_ (by first | (simp; done) | omega | (simp; omega)) _ | refine bel_drew ?_)
set_option maxHeartbeats 1000000 in
theorem specValid_any (h m s f r : Int) (fr : fits r) (w : World) :
    Calls Try.prog 14 #[.agg #[.int .i64 h, .int .i64 m, .int .i64 s, .int .i64 f, .int .i64 r]] w fun e w' => e = .returned (.bool (okT h m s f r)) ∧ Below w.heap.size w w' := by
  have O := Lib.hid (fun g w hc => ok_at g h m s f r fr w hc)
  go_enter Try.func14, Try.ntmps14
  go_wp2_with fail
  refine (O.out _ _ (BAt.new _ _ _ _ _ _ _).at0).mono ?_
  rintro e w1 ⟨rfl, n, rfl⟩
  go_wp2_with fail
  go_ret
  exact ⟨rfl, bel_dT ((Below.refl _ _).alloc (Nat.le_refl _) _) _⟩
def frV (h m s f r : Int) : Value := if okT h m s f r = true then .tuple #[.int .i64 (frN h m s f r), .int .i64 0] else .tuple #[.int .i64 0, .int .i64 1]
theorem frV_form (h m s f r : Int) : ∃ x k : Int, frV h m s f r = .tuple #[.int .i64 x, .int .i64 k] := by
  unfold frV
  split <;> exact ⟨_, _, rfl⟩
set_option maxHeartbeats 1000000 in
theorem specFrame_any (h m s f r : Int) (fr : fits r) (w : World) :
    Calls Try.prog 17 #[.agg #[.int .i64 h, .int .i64 m, .int .i64 s, .int .i64 f, .int .i64 r]] w fun e w' => e = .returned (frV h m s f r) ∧ Below w.heap.size w w' := by
  unfold frV
  have O := Lib.hid (fun g w hc => ok_at g h m s f r fr w hc)
  cases k : okT h m s f r with
  | false =>
    rw [if_neg (by simp)]
    rw [k] at O
    clear k
    go_enter Try.func17, Try.ntmps17
    go_wp2_with fail
    refine (O.out _ _ (BAt.new _ _ _ _ _ _ _).at0).mono ?_
    rintro e w1 ⟨rfl, n, rfl⟩
    go_wp2_with fail
    go_ret2
    exact ⟨rfl, bel_dT ((Below.refl _ _).alloc (Nat.le_refl _) _) _⟩
  | true =>
    rw [if_pos rfl]
    have F := Lib.hid (fun g w hc => frame_at g h m s f r k w hc)
    rw [k] at O
    clear k
    generalize frN h m s f r = z at *
    go_enter Try.func17, Try.ntmps17
    go_wp2_with fail
    refine (O.out _ _ (BAt.new _ _ _ _ _ _ _).at0).mono ?_
    rintro e w1 ⟨rfl, n, rfl⟩
    go_wp2_with fail
    refine (F.out _ _ ((BAt.new _ _ _ _ _ _ _).at0.drewN)).mono ?_
    rintro e w1 ⟨rfl, n, rfl⟩
    go_wp2_with fail
    go_ret2
    exact ⟨rfl, by first | exact bel_dT (bel_dT ((Below.refl _ _).alloc (Nat.le_refl _) _) _) _ | exact bel_dT ((Below.refl _ _).alloc (Nat.le_refl _) _) _⟩
set_option maxHeartbeats 1000000 in
theorem implFrame_any (h m s f r : Int) (fm : fits m) (w : World) :
    Calls Try.prog 18 #[.agg #[.int .i64 h, .int .i64 m, .int .i64 s, .int .i64 f, .int .i64 r]] w fun e w' => e = .returned (frV h m s f r) ∧ Below w.heap.size w w' := by
  unfold frV
  have O := Lib.hid (fun w => valid_any h m s f r fm w)
  cases k : okT h m s f r with
  | false =>
    rw [if_neg (by simp)]
    rw [k] at O
    clear k
    go_enter Try.func18, Try.ntmps18
    go_wp2_with fail
    refine (O.out _).mono ?_
    rintro e w1 ⟨rfl, hb⟩
    have hsw1 := hb.size
    try simp at hsw1
    obtain ⟨hcw1, hfw1⟩ := bcell hb
    have HBw1 : Hid (Below w.heap.size w w1) := by
      apply Lib.hid
      refine Below.trans ?_ (hb.mono ?_)
      · repeat (first | exact Below.refl _ _ | refine Below.setCell ?_ (by first | (simp; done) | omega | (simp; omega)) _ | refine Below.alloc ?_ (by first | (simp; done) | omega | (simp; omega)) _)
      · first | (simp; done) | omega | (simp; omega)
    have hzw1 : w.heap.size < w1.heap.size := by have := hb.size; (try simp at this); omega
    clear hb
    go_wp2_with fail
    go_ret2
    refine ⟨rfl, ?_⟩
    repeat (first | exact Below.refl _ _ | exact HBw1.out | refine Below.setCell ?_ (by first | (simp; done) | omega | (simp; omega)) _ | refine Below.alloc ?_ (by first | (simp; done) | omega | (simp; omega)) _ | refine bel_drew ?_)
  | true =>
    rw [if_pos rfl]
    have F := Lib.hid (fun w => frame_any h m s f r k w)
    rw [k] at O
    clear k
    generalize frN h m s f r = z at *
    go_enter Try.func18, Try.ntmps18
    go_wp2_with fail
    refine (O.out _).mono ?_
    rintro e w1 ⟨rfl, hb⟩
    have hsw1 := hb.size
    try simp at hsw1
    obtain ⟨hcw1, hfw1⟩ := bcell hb
    have HBw1 : Hid (Below w.heap.size w w1) := by
      apply Lib.hid
      refine Below.trans ?_ (hb.mono ?_)
      · repeat (first | exact Below.refl _ _ | refine Below.setCell ?_ (by first | (simp; done) | omega | (simp; omega)) _ | refine Below.alloc ?_ (by first | (simp; done) | omega | (simp; omega)) _)
      · first | (simp; done) | omega | (simp; omega)
    have hzw1 : w.heap.size < w1.heap.size := by have := hb.size; (try simp at this); omega
    clear hb
    go_wp2_with fail
    refine (F.out _).mono ?_
    rintro e w2 ⟨rfl, hb⟩
    have hsw2 := hb.size
    try simp at hsw2
    obtain ⟨hcw2, hfw2⟩ := bcell hb
    have HBw2 : Hid (Below w.heap.size w w2) := by
      apply Lib.hid
      refine Below.trans ?_ (hb.mono ?_)
      · repeat (first | exact Below.refl _ _ | exact HBw1.out | refine Below.setCell ?_ (by first | (simp; done) | omega | (simp; omega)) _ | refine Below.alloc ?_ (by first | (simp; done) | omega | (simp; omega)) _)
      · first | (simp; done) | omega | (simp; omega)
    have hzw2 : w.heap.size < w2.heap.size := by have := hb.size; (try simp at this); omega
    clear hb
    first | (have gsw2w1 : w1.heap.size < w2.heap.size := by omega) | skip
    go_wp2_with fail
    go_ret2
    refine ⟨rfl, ?_⟩
    repeat (first | exact Below.refl _ _ | exact HBw2.out | refine Below.setCell ?_ (by first | (simp; done) | omega | (simp; omega)) _ | refine Below.alloc ?_ (by first | (simp; done) | omega | (simp; omega)) _ | refine bel_drew ?_)
end Go.Proofs.Ytecnhbgkkfcipaa.Tc
