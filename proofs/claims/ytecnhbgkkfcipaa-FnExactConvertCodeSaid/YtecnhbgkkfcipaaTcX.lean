/-
  Time codes: which are valid, the number of a code, the code with a number (both packages).
-/
import Derived.Test.YtecnhbgkkfcipaaTcW
import Derived.Test.YtecnhbgkkfcipaaSrch
namespace Go.Proofs.Ytecnhbgkkfcipaa.Tc
open Go.RowKit
open Cd (At BAt)
set_option linter.unusedVariables false

theorem toB {P : Program} {f : FuncId} {args : Array Value} {w : World} {v : Value}
    (h : Calls P f args w fun e w' => e = .returned v ∧ w = w') : Calls P f args w fun e w' => e = .returned v ∧ Below w.heap.size w w' :=
  h.mono fun _ _ ⟨he, hm⟩ => ⟨he, by subst hm; exact Below.refl _ _⟩
theorem left_all (r m : Int) (fm : fits m) (w : World) :
    Calls Try.prog 47 #[.int .i64 r, .int .i64 m] w fun e w' => e = .returned (.int .i64 (leftN r m)) ∧ w = w' := by
  by_cases h0 : 0 ≤ m
  · unfold leftN
    by_cases c : r = 30
    · subst c
      rw [if_pos rfl]
      by_cases h : m % 10 = 0
      · rw [if_pos h]
        have hb : (m % 10 == 0) = true := by rw [h]; rfl
        go_enter Try.func47, Try.ntmps47
        go_wp2_with fail
        go_ret
        exact ⟨rfl, rfl⟩
      · rw [if_neg h]
        have hb : (m % 10 == 0) = false := beq_eq_false_iff_ne.2 h
        go_enter Try.func47, Try.ntmps47
        go_wp2_with fail
        go_ret
        exact ⟨rfl, rfl⟩
    · rw [if_neg c]
      have cb : (r == 30) = false := beq_eq_false_iff_ne.2 c
      clear c
      go_enter Try.func47, Try.ntmps47
      go_wp2_with fail
      go_ret
      exact ⟨rfl, rfl⟩
  · have hn : ¬ 0 ≤ m := h0
    have e : m.tmod 10 = 0 ↔ m % 10 = 0 := by
      rw [← Int.dvd_iff_tmod_eq_zero, ← Int.dvd_iff_emod_eq_zero]
    unfold leftN
    by_cases c : r = 30
    · subst c
      rw [if_pos rfl]
      by_cases h : m % 10 = 0
      · rw [if_pos h]
        have hb : (m.tmod 10 == 0) = true := by rw [e.2 h]; rfl
        clear e h
        go_enter Try.func47, Try.ntmps47
        go_wp2_with fail
        go_ret
        exact ⟨rfl, rfl⟩
      · rw [if_neg h]
        have hb : (m.tmod 10 == 0) = false := beq_eq_false_iff_ne.2 (fun x => h (e.1 x))
        clear e h
        go_enter Try.func47, Try.ntmps47
        go_wp2_with fail
        go_ret
        exact ⟨rfl, rfl⟩
    · rw [if_neg c]
      have cb : (r == 30) = false := beq_eq_false_iff_ne.2 c
      clear c e
      go_enter Try.func47, Try.ntmps47
      go_wp2_with fail
      go_ret
      exact ⟨rfl, rfl⟩
set_option maxRecDepth 100000 in
set_option maxHeartbeats 4000000 in
theorem ok_at (g : Nat) (h m s f r : Int) (fr : fits r) (w : World) (hc : At w g 0 ⟨h, m, s, f, r⟩) :
    Calls Try.prog 45 #[.pointer (some ⟨g, 0, none⟩)] w fun e w' => e = .returned (.bool (okT h m s f r)) ∧ ∃ n, w' = w.drewN n := by
  obtain ⟨c0, c1, c2, c3, c4⟩ := hc
  simp only [Nat.zero_add] at c0 c1 c2 c3 c4
  have I0 := Lib.hid (fun w => rate_any r w)
  have I1 := Lib.hid (fun w => l00In_any h 0 23 w)
  have I2 := Lib.hid (fun w => l00In_any m 0 59 w)
  have I3 := Lib.hid (fun w => l00In_any s 0 59 w)
  have I4 := Lib.hid (fun w => l00In_any f 0 (r - 1) w)
  unfold okT
  cases hr : isR r with
  | false =>
    rw [hr] at I0
    rw [Bool.false_and]
    clear hr
    go_enter Try.func45, Try.ntmps45
    go_wp2_with fail
    go_quiet ((first | (go_at_call 51; with_reducible exact quiet_leftT (I0.out _)) | (go_at_call 52; (first | (with_reducible exact quiet_leftT (I1.out _)) | (with_reducible exact quiet_leftT (I2.out _)) | (with_reducible exact quiet_leftT (I3.out _)) | (with_reducible exact quiet_leftT (I4.out _))))))
    rename Nat => q1
    go_wp2_with fail
    go_ret
    exact ⟨rfl, _, rfl⟩
  | true =>
    rw [hr] at I0
    rw [Bool.true_and]
    have rb : 24 ≤ r ∧ r ≤ 30 := by rcases isR_cases hr with rfl | rfl | rfl <;> omega
    obtain ⟨rb0, rb1⟩ := rb
    have wr1 : IntKind.i64.wrap (r - 1) = r - 1 := IntWalk.i64_in _ (by omega)
    clear hr
    cases h1 : inR 0 23 [h] with
    | false =>
      rw [h1] at I1
      rw [Bool.false_and]
      clear h1
      go_enter Try.func45, Try.ntmps45
      go_wp2_with fail
      go_quiet ((first | (go_at_call 51; with_reducible exact quiet_leftT (I0.out _)) | (go_at_call 52; (first | (with_reducible exact quiet_leftT (I1.out _)) | (with_reducible exact quiet_leftT (I2.out _)) | (with_reducible exact quiet_leftT (I3.out _)) | (with_reducible exact quiet_leftT (I4.out _))))))
      rename Nat => q1
      go_wp2_with fail
      go_ret
      exact ⟨rfl, _, rfl⟩
    | true =>
      have hx1 := (inR_1 _ _ _).1 h1
      rw [h1] at I1
      rw [Bool.true_and]
      clear h1
      cases h2 : inR 0 59 [m] with
      | false =>
        rw [h2] at I2
        rw [Bool.false_and]
        clear h2
        go_enter Try.func45, Try.ntmps45
        go_wp2_with fail
        go_quiet ((first | (go_at_call 51; with_reducible exact quiet_leftT (I0.out _)) | (go_at_call 52; (first | (with_reducible exact quiet_leftT (I1.out _)) | (with_reducible exact quiet_leftT (I2.out _)) | (with_reducible exact quiet_leftT (I3.out _)) | (with_reducible exact quiet_leftT (I4.out _))))))
        rename Nat => q1
        go_wp2_with fail
        go_ret
        exact ⟨rfl, _, rfl⟩
      | true =>
        have hx2 := (inR_1 _ _ _).1 h2
        rw [h2] at I2
        rw [Bool.true_and]
        clear h2
        cases h3 : inR 0 59 [s] with
        | false =>
          rw [h3] at I3
          rw [Bool.false_and]
          clear h3
          go_enter Try.func45, Try.ntmps45
          go_wp2_with fail
          go_quiet ((first | (go_at_call 51; with_reducible exact quiet_leftT (I0.out _)) | (go_at_call 52; (first | (with_reducible exact quiet_leftT (I1.out _)) | (with_reducible exact quiet_leftT (I2.out _)) | (with_reducible exact quiet_leftT (I3.out _)) | (with_reducible exact quiet_leftT (I4.out _))))))
          rename Nat => q1
          go_wp2_with fail
          go_ret
          exact ⟨rfl, _, rfl⟩
        | true =>
          have hx3 := (inR_1 _ _ _).1 h3
          rw [h3] at I3
          rw [Bool.true_and]
          clear h3
          cases h4 : inR 0 (r - 1) [f] with
          | false =>
            rw [h4] at I4
            rw [Bool.false_and]
            clear h4
            go_enter Try.func45, Try.ntmps45
            go_wp2_with fail
            go_quiet ((first | (go_at_call 51; with_reducible exact quiet_leftT (I0.out _)) | (go_at_call 52; (first | (with_reducible exact quiet_leftT (I1.out _)) | (with_reducible exact quiet_leftT (I2.out _)) | (with_reducible exact quiet_leftT (I3.out _)) | (with_reducible exact quiet_leftT (I4.out _))))))
            rename Nat => q1
            go_wp2_with fail
            go_ret
            exact ⟨rfl, _, rfl⟩
          | true =>
            have hx4 := (inR_1 _ _ _).1 h4
            rw [h4] at I4
            rw [Bool.true_and]
            clear h4
            obtain ⟨m0, m1⟩ := hx2
            clear hx1 hx3 hx4
            by_cases cr : r = 30
            · subst cr
              simp only [show (30 : Int) - 1 = 29 from rfl] at I4
              rw [decide_eq_true rfl, Bool.not_true, Bool.false_or]
              cases hm : decide (m % 10 = 0) with
              | true =>
                have hb : (m % 10 == 0) = true := by rw [of_decide_eq_true hm]; rfl
                rw [Bool.true_or]
                clear hm
                go_enter Try.func45, Try.ntmps45
                go_wp2_with fail
                go_quiet ((first | (go_at_call 51; with_reducible exact quiet_leftT (I0.out _)) | (go_at_call 52; (first | (with_reducible exact quiet_leftT (I1.out _)) | (with_reducible exact quiet_leftT (I2.out _)) | (with_reducible exact quiet_leftT (I3.out _)) | (with_reducible exact quiet_leftT (I4.out _))))))
                rename Nat => q1
                go_wp2_with fail
                go_ret
                exact ⟨rfl, _, rfl⟩
              | false =>
                have hb : (m % 10 == 0) = false := beq_eq_false_iff_ne.2 (of_decide_eq_false hm)
                rw [Bool.false_or]
                clear hm
                cases hs : decide (0 < s) with
                | true =>
                  rw [Bool.true_or]
                  go_enter Try.func45, Try.ntmps45
                  go_wp2_with fail
                  go_quiet ((first | (go_at_call 51; with_reducible exact quiet_leftT (I0.out _)) | (go_at_call 52; (first | (with_reducible exact quiet_leftT (I1.out _)) | (with_reducible exact quiet_leftT (I2.out _)) | (with_reducible exact quiet_leftT (I3.out _)) | (with_reducible exact quiet_leftT (I4.out _))))))
                  rename Nat => q1
                  go_wp2_with fail
                  go_ret
                  exact ⟨rfl, _, rfl⟩
                | false =>
                  rw [Bool.false_or]
                  cases hf : decide (1 < f) with
                  | true =>
                    go_enter Try.func45, Try.ntmps45
                    go_wp2_with fail
                    go_quiet ((first | (go_at_call 51; with_reducible exact quiet_leftT (I0.out _)) | (go_at_call 52; (first | (with_reducible exact quiet_leftT (I1.out _)) | (with_reducible exact quiet_leftT (I2.out _)) | (with_reducible exact quiet_leftT (I3.out _)) | (with_reducible exact quiet_leftT (I4.out _))))))
                    rename Nat => q1
                    go_wp2_with fail
                    go_ret
                    exact ⟨rfl, _, rfl⟩
                  | false =>
                    go_enter Try.func45, Try.ntmps45
                    go_wp2_with fail
                    go_quiet ((first | (go_at_call 51; with_reducible exact quiet_leftT (I0.out _)) | (go_at_call 52; (first | (with_reducible exact quiet_leftT (I1.out _)) | (with_reducible exact quiet_leftT (I2.out _)) | (with_reducible exact quiet_leftT (I3.out _)) | (with_reducible exact quiet_leftT (I4.out _))))))
                    rename Nat => q1
                    go_wp2_with fail
                    go_ret
                    exact ⟨rfl, _, rfl⟩
            · have cb : (r == 30) = false := beq_eq_false_iff_ne.2 cr
              rw [decide_eq_false cr, Bool.not_false, Bool.true_or]
              have cd : (r != 30) = true := by rw [bne, cb]; rfl
              go_enter Try.func45, Try.ntmps45
              go_wp2_with fail
              go_quiet ((first | (go_at_call 51; with_reducible exact quiet_leftT (I0.out _)) | (go_at_call 52; (first | (with_reducible exact quiet_leftT (I1.out _)) | (with_reducible exact quiet_leftT (I2.out _)) | (with_reducible exact quiet_leftT (I3.out _)) | (with_reducible exact quiet_leftT (I4.out _))))))
              rename Nat => q1
              go_wp2_with fail
              go_ret
              exact ⟨rfl, _, rfl⟩
set_option maxRecDepth 100000 in
set_option maxHeartbeats 2000000 in
theorem frame_at (g : Nat) (h m s f r : Int) (k : okT h m s f r = true) (w : World) (hc : At w g 0 ⟨h, m, s, f, r⟩) :
    Calls Try.prog 49 #[.pointer (some ⟨g, 0, none⟩)] w fun e w' => e = .returned (.int .i64 (frN h m s f r)) ∧ ∃ n, w' = w.drewN n := by
  obtain ⟨c0, c1, c2, c3, c4⟩ := hc
  simp only [Nat.zero_add] at c0 c1 c2 c3 c4
  obtain ⟨hr, ⟨h0, h1⟩, ⟨m0, m1⟩, ⟨s0, s1⟩, f0, f1⟩ := okT_bd k
  clear k
  unfold frN
  rcases isR_cases hr with rfl | rfl | rfl
  · rw [if_neg (by decide)]
    clear hr
    have w1 : IntKind.i64.wrap (60 * h) = 60 * h := IntWalk.i64_in _ (by omega)
    have w2 : IntKind.i64.wrap (60 * h + m) = 60 * h + m := IntWalk.i64_in _ (by omega)
    have w3 : IntKind.i64.wrap (60 * (60 * h + m)) = 60 * (60 * h + m) := IntWalk.i64_in _ (by omega)
    have w4 : IntKind.i64.wrap (60 * (60 * h + m) + s) = 60 * (60 * h + m) + s := IntWalk.i64_in _ (by omega)
    have w5 : IntKind.i64.wrap ((60 * (60 * h + m) + s) * 24) = (60 * (60 * h + m) + s) * 24 := IntWalk.i64_in _ (by omega)
    have w6 : IntKind.i64.wrap ((60 * (60 * h + m) + s) * 24 + f) = (60 * (60 * h + m) + s) * 24 + f := IntWalk.i64_in _ (by omega)
    go_enter Try.func49, Try.ntmps49
    go_wp2_with fail
    go_quiet (fail)
    rename Nat => q1
    go_wp2_with fail
    go_quiet (fail)
    rename Nat => q2
    clear w1 w2 w3 w4 w5 w6
    go_wp2_with fail
    go_ret
    exact ⟨ret_int (by first | rfl | omega), _, by first | rfl | (rw [World.drewN_drewN])⟩
  · rw [if_neg (by decide)]
    clear hr
    have w1 : IntKind.i64.wrap (60 * h) = 60 * h := IntWalk.i64_in _ (by omega)
    have w2 : IntKind.i64.wrap (60 * h + m) = 60 * h + m := IntWalk.i64_in _ (by omega)
    have w3 : IntKind.i64.wrap (60 * (60 * h + m)) = 60 * (60 * h + m) := IntWalk.i64_in _ (by omega)
    have w4 : IntKind.i64.wrap (60 * (60 * h + m) + s) = 60 * (60 * h + m) + s := IntWalk.i64_in _ (by omega)
    have w5 : IntKind.i64.wrap ((60 * (60 * h + m) + s) * 25) = (60 * (60 * h + m) + s) * 25 := IntWalk.i64_in _ (by omega)
    have w6 : IntKind.i64.wrap ((60 * (60 * h + m) + s) * 25 + f) = (60 * (60 * h + m) + s) * 25 + f := IntWalk.i64_in _ (by omega)
    go_enter Try.func49, Try.ntmps49
    go_wp2_with fail
    go_quiet (fail)
    rename Nat => q1
    go_wp2_with fail
    go_quiet (fail)
    rename Nat => q2
    clear w1 w2 w3 w4 w5 w6
    go_wp2_with fail
    go_ret
    exact ⟨ret_int (by first | rfl | omega), _, by first | rfl | (rw [World.drewN_drewN])⟩
  · rw [if_pos rfl]
    clear hr
    have w1 : IntKind.i64.wrap (60 * h) = 60 * h := IntWalk.i64_in _ (by omega)
    have w2 : IntKind.i64.wrap (60 * h + m) = 60 * h + m := IntWalk.i64_in _ (by omega)
    have w3 : IntKind.i64.wrap (60 * (60 * h + m)) = 60 * (60 * h + m) := IntWalk.i64_in _ (by omega)
    have w4 : IntKind.i64.wrap (60 * (60 * h + m) + s) = 60 * (60 * h + m) + s := IntWalk.i64_in _ (by omega)
    have w5 : IntKind.i64.wrap ((60 * (60 * h + m) + s) * 30) = (60 * (60 * h + m) + s) * 30 := IntWalk.i64_in _ (by omega)
    have w6 : IntKind.i64.wrap ((60 * (60 * h + m) + s) * 30 + f) = (60 * (60 * h + m) + s) * 30 + f := IntWalk.i64_in _ (by omega)
    go_enter Try.func49, Try.ntmps49
    go_wp2_with fail
    go_quiet (fail)
    rename Nat => q1
    go_wp2_with fail
    go_quiet (fail)
    rename Nat => q2
    clear w1 w2 w3 w4 w5 w6
    go_wp2_with fail
    go_ret
    exact ⟨ret_int (by first | rfl | omega), _, by first | rfl | (rw [World.drewN_drewN])⟩
set_option maxRecDepth 100000 in
set_option maxHeartbeats 4000000 in
theorem frame_any (h m s f r : Int) (k : okT h m s f r = true) (w : World) :
    Calls Try.prog 50 #[.agg #[.int .i64 h, .int .i64 m, .int .i64 s, .int .i64 f, .int .i64 r]] w fun e w' => e = .returned (.int .i64 (frN h m s f r)) ∧ Below w.heap.size w w' := by
  rw [← fr_impl k]
  obtain ⟨hr, ⟨h0, h1⟩, ⟨m0, m1⟩, ⟨s0, s1⟩, f0, f1⟩ := okT_bd k
  clear k
  have RT := Lib.hid (fun w => rateOf_any h m s f r w)
  have CO := Lib.hid (fun w => toB (codes_any r (h * 60 + m) hr (by omega) (by omega) w))
  have LE := Lib.hid (fun w => toB (left_any r (h * 60 + m) (by omega) (by omega) w))
  obtain ⟨b0, b1⟩ := codes_bd hr (a := h * 60 + m) (by omega) (by omega)
  have lb : 0 ≤ leftN r (h * 60 + m) ∧ leftN r (h * 60 + m) ≤ 2 := by unfold leftN; split <;> (try split) <;> omega
  obtain ⟨l0, l1⟩ := lb
  have rb : 24 ≤ r ∧ r ≤ 30 := by rcases isR_cases hr with rfl | rfl | rfl <;> omega
  obtain ⟨r0, r1⟩ := rb
  have sr0 : 0 ≤ s * r := Int.mul_nonneg s0 (by omega)
  have sr1 : s * r ≤ 59 * 30 := Int.le_trans (Int.mul_le_mul_of_nonneg_right s1 (by omega)) (Int.mul_le_mul_of_nonneg_left r1 (by omega))
  clear hr
  generalize hcn : codesN r (h * 60 + m) = cn at *
  generalize hln : leftN r (h * 60 + m) = ln at *
  clear hcn hln
  generalize hsr : s * r = sr at *
  have w0 : IntKind.i64.wrap sr = sr := IntWalk.i64_in _ (by omega)
  have w1 : IntKind.i64.wrap (cn + sr) = cn + sr := IntWalk.i64_in _ (by omega)
  have w2 : IntKind.i64.wrap (cn + sr + f) = cn + sr + f := IntWalk.i64_in _ (by omega)
  have w3 : IntKind.i64.wrap (cn + sr + f - ln) = cn + sr + f - ln := IntWalk.i64_in _ (by omega)
  obtain ⟨W1, hW1⟩ : ∃ W, W = w.alloc (Obj.cells #[Value.int .i64 h, .int .i64 m, .int .i64 s, .int .i64 f, .int .i64 r] 25) := ⟨_, rfl⟩
  have K : Hid (W1.cell? ⟨w.heap.size, 0, none⟩ = some (.int .i64 h) ∧ W1.cell? ⟨w.heap.size, 1, none⟩ = some (.int .i64 m) ∧ W1.cell? ⟨w.heap.size, 2, none⟩ = some (.int .i64 s) ∧ W1.cell? ⟨w.heap.size, 3, none⟩ = some (.int .i64 f) ∧ W1.cell? ⟨w.heap.size, 4, none⟩ = some (.int .i64 r) ∧ Below w.heap.size w W1) := Lib.hid (by rw [hW1]; exact ⟨by simp, by simp, by simp, by simp, by simp, (Below.refl _ _).alloc (Nat.le_refl _) _⟩)
  have HW := Lib.hid hW1
  clear hW1
  go_enter Try.func50, Try.ntmps50
  go_wp2_with fail
  rw [← HW.out]
  clear HW
  obtain ⟨k0, k1, k2, k3, k4, kb⟩ := K.out
  go_region_held3 (fun W => W.cell? ⟨w.heap.size, 0, none⟩ = some (.int .i64 h) ∧ W.cell? ⟨w.heap.size, 1, none⟩ = some (.int .i64 m) ∧ W.cell? ⟨w.heap.size, 2, none⟩ = some (.int .i64 s) ∧ W.cell? ⟨w.heap.size, 3, none⟩ = some (.int .i64 f) ∧ W.cell? ⟨w.heap.size, 4, none⟩ = some (.int .i64 r) ∧ Below w.heap.size w W) (first | (exact keepW5 K.out (drewG W1)) | (exact keepW5 K.out y4) | (exact keepW5 K.out y3) | (exact keepW5 K.out y2) | (exact keepW5 K.out y1) | go_keep) ((first
    | (go_at_call 47; refine (LE.out _).mono ?_; rintro e x4 ⟨rfl, hx4⟩; have y4 := y3.trans (hx4.mono y3.size))
    | (go_at_call 74; refine (CO.out _).mono ?_; rintro e x2 ⟨rfl, hx2⟩; have y2 := y1.trans (hx2.mono y1.size))
    | (go_at_call 46; refine (RT.out _).mono ?_; rintro e x3 ⟨rfl, hx3⟩; have y3 := y2.trans (hx3.mono y2.size))
    | (go_at_call 46; refine (RT.out _).mono ?_; rintro e x1 ⟨rfl, hx1⟩; have y1 := undrewG hx1)))
  rename_i held
  have HB := Lib.hid held.2.2.2.2.2
  clear held K
  go_wp2_with fail
  go_ret
  exact ⟨ret_int (by first | rfl | (rw [hsr])), HB.out⟩
set_option maxHeartbeats 1000000 in
theorem later_in (b0 b1 i : Nat) (r n : Int) (hr : isR r = true) (hi : i < 1439) (w : World)
    (h0 : w.cell? ⟨b0, 0, none⟩ = some (.int .i64 r)) (h1 : w.cell? ⟨b1, 0, none⟩ = some (.int .i64 n)) :
    Calls Try.prog 76 (#[.int .i64 (i : Int)] ++ #[.pointer (some ⟨b0, 0, none⟩), .pointer (some ⟨b1, 0, none⟩)]) w fun e w' => e = .returned (.bool (decide (n < codesN r ((i : Int) + 1)))) ∧ Below w.heap.size w w' := by
  have T := Lib.hid (fun w => codes_any r ((i : Int) + 1) hr (by omega) (by omega) w)
  have m1 : IntKind.i64.wrap ((i : Int) + 1) = (i : Int) + 1 := IntWalk.i64_in _ (by omega)
  clear hr
  generalize codesN r ((i : Int) + 1) = z at *
  go_enter Try.func76, Try.ntmps76
  go_wp2_with fail
  go_quiet ((go_at_call 74; with_reducible exact quiet_leftT (T.out _)))
  rename Nat => q1
  clear h0 h1
  go_wp2_with fail
  go_ret
  exact ⟨rfl, bel_dT (Below.refl _ _) _⟩
/-- The code with a number and whether there is one. -/
def codeV (n r : Int) : Value := if 0 ≤ n ∧ n < codesN r 1440 then .tuple #[.agg #[.int .i64 (hN n r), .int .i64 (mN n r), .int .i64 (sN n r), .int .i64 (fN n r), .int .i64 r], .bool true] else .tuple #[.agg #[.int .i64 0, .int .i64 0, .int .i64 0, .int .i64 0, .int .i64 0], .bool false]
end Go.Proofs.Ytecnhbgkkfcipaa.Tc
