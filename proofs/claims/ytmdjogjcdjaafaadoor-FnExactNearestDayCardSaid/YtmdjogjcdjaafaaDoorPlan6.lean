/-
  The way from planet to planet, in package impl: the contract of wayAt.
-/
import Derived.Test.YtmdjogjcdjaafaaDoorPlan5
import Derived.Deep.CutBlock
namespace Go.Proofs.YtmdjogjcdjaafaaDoor
open Go.RowKit
set_option linter.unusedVariables false

theorem place_eql (U V X Y : Int) (w : World) : (binOp .eql 46 (.agg #[.int .i64 U, .int .i64 V]) (.agg #[.int .i64 X, .int .i64 Y])).run Tryd.prog w = .ok (.bool (decide (U = X ∧ V = Y))) w := by
  rw [run_eql_struct]
  have hu : Tryd.prog.underlying 46 = some (.struct (Tryd.prog.fieldsOf 46)) := by kernel_rfl
  have hp : Tryd.prog.stoodInHeld 46 = false := by kernel_rfl
  rw [run_equalIn_agg w 9999 46 _ _ hu hp]
  simp only [Program.fieldsOf, Tryd.underlying46]
  simp [Op.eqFields, go_sem, Tryd.underlying2]
  by_cases h0 : U = X <;> by_cases h1 : V = Y <;> simp [h0, h1]
theorem place_guard : Tryd.prog.eqGuardType Tryd.prog.depth 46 = false := by kernel_rfl
/-- What wayAt returns. -/
def wayV (s : ByteArray) (a b c : Int) (t : ByteArray) (x y z d m : Int) : Value := if askP s a b c t x y z d m = 0 then .tuple #[.agg #[.int .i64 (wX a b c x y z d m), .int .i64 (wY a b c x y z d m)], .int .i64 0] else .tuple #[.agg #[.int .i64 0, .int .i64 0], .int .i64 (askP s a b c t x y z d m)]

set_option maxRecDepth 100000 in
set_option maxHeartbeats 4000000 in
theorem wayAt_any (s : ByteArray) (a b c : Int) (t : ByteArray) (x y z d m : Int) (hmax : s.size ≤ maxLen) (tmax : t.size ≤ maxLen) (w : World) (hs : SinesOK w) :
    Calls Tryd.prog 38 #[.agg #[.string s, .int .i64 a, .int .i64 b, .int .i64 c, .string t, .int .i64 x, .int .i64 y, .int .i64 z], .agg #[.int .i64 d, .int .i64 m]] w fun e w' => e = .returned (wayV s a b c t x y z d m) ∧ Below w.heap.size w w' := by
  unfold wayV askP
  have I1 := Lib.hid (fun w => validPlanet_any s a b c hmax w)
  have I2 := Lib.hid (fun w => validPlanet_any t x y z tmax w)
  have J := Lib.hid (fun w => valid_any d m w)
  have CF0 := Lib.hid (fun h k w hs => placeAt_any t x y z d m h k w hs)
  have CP0 := Lib.hid (fun h k w hs => placeAt_any s a b c d m h k w hs)
  have E := Lib.hid hs
  clear hs hmax tmax
  obtain ⟨W0, hW0⟩ : ∃ W0, W0 = ((w.alloc (.cells #[.string s, .int .i64 a, .int .i64 b, .int .i64 c, .string t, .int .i64 x, .int .i64 y, .int .i64 z] 50)).alloc (.cells #[.int .i64 d, .int .i64 m] 31)).alloc (.cells #[.int .i64 0, .int .i64 0] 46) := ⟨_, rfl⟩
  have S0 : Hid (SW w s a b c t x y z d m W0) := Lib.hid (by
    refine ⟨?_, ?_, ?_, ?_⟩
    · rw [hW0]; exact ⟨by rw [World.cell?_alloc_lt _ _ _ (by first | (simp; done) | (simp; omega))]; simp, by rw [World.cell?_alloc_lt _ _ _ (by first | (simp; done) | (simp; omega))]; simp, by rw [World.cell?_alloc_lt _ _ _ (by first | (simp; done) | (simp; omega))]; simp, by rw [World.cell?_alloc_lt _ _ _ (by first | (simp; done) | (simp; omega))]; simp, by rw [World.cell?_alloc_lt _ _ _ (by first | (simp; done) | (simp; omega))]; simp, by rw [World.cell?_alloc_lt _ _ _ (by first | (simp; done) | (simp; omega))]; simp, by rw [World.cell?_alloc_lt _ _ _ (by first | (simp; done) | (simp; omega))]; simp, by rw [World.cell?_alloc_lt _ _ _ (by first | (simp; done) | (simp; omega))]; simp⟩
    · rw [hW0]; exact ⟨by rw [World.cell?_alloc_lt _ _ _ (by first | (simp; done) | (simp; omega))]; simp, by rw [World.cell?_alloc_lt _ _ _ (by first | (simp; done) | (simp; omega))]; simp⟩
    · rw [hW0]; simpa using C2.new ((w.alloc (.cells #[.string s, .int .i64 a, .int .i64 b, .int .i64 c, .string t, .int .i64 x, .int .i64 y, .int .i64 z] 50)).alloc (.cells #[.int .i64 d, .int .i64 m] 31)) 46 0 0
    · rw [hW0]; exact (((Below.refl _ _).alloc (Nat.le_refl _) _).alloc (by first | (simp; done) | (simp; omega)) _).alloc (by first | (simp; done) | (simp; omega)) _)
  have HW := Lib.hid hW0
  clear hW0
  cases hp : planetB s a b c with
  | false =>
    rw [hp] at I1
    simp only [Bool.false_eq_true, false_and, if_false, (by decide : ¬ (1 : Int) = 0)]
    clear hp CF0 CP0 E
    go_enter Tryd.func38, Tryd.ntmps38
    obtain ⟨k0, k1, k2, k3, k4, k5, k6, k7, k8, k9, k10⟩ := S0.out.flat
    clear k10
    go_wp2_with fail
    rw [← HW.out]
    clear HW
    refine (I1.out _).mono ?_
    rintro e w1 ⟨rfl, hb⟩
    have S1 := Lib.hid (S0.out.on hb)
    clear hb S0 k0 k1 k2 k3 k4 k5 k6 k7 k8 k9
    obtain ⟨k0, k1, k2, k3, k4, k5, k6, k7, k8, k9, k10⟩ := S1.out.flat
    clear k10
    obtain ⟨q0, q1, q2, q3⟩ := S1.out.2.2.1
    have HB := Lib.hid S1.out.2.2.2
    go_wp2_with fail
    refine bodyPost_ret (v := .tuple #[.agg #[.int .i64 0, .int .i64 0], .int .i64 1]) (by first | (simp [results, Tryd.results38, go_sem]; done) | (simp [results, Tryd.results38, go_sem, *]; done)) rfl ⟨rfl, ?_⟩
    repeat (first | exact Below.refl _ _ | exact HB.out | refine Below.setCell ?_ (by first | (simp; done) | omega | (simp; omega)) _ | refine Below.alloc ?_ (by first | (simp; done) | omega | (simp; omega)) _ | refine bel_drew ?_)
  | true =>
    rw [hp] at I1
    cases hq : planetB t x y z with
    | false =>
      rw [hq] at I2
      simp only [Bool.false_eq_true, false_and, and_false, if_false, (by decide : ¬ (1 : Int) = 0)]
      clear hp hq CF0 CP0 E
      go_enter Tryd.func38, Tryd.ntmps38
      obtain ⟨k0, k1, k2, k3, k4, k5, k6, k7, k8, k9, k10⟩ := S0.out.flat
      clear k10
      go_wp2_with fail
      rw [← HW.out]
      clear HW
      refine (I1.out _).mono ?_
      rintro e w1 ⟨rfl, hb⟩
      have S1 := Lib.hid (S0.out.on hb)
      clear hb S0 k0 k1 k2 k3 k4 k5 k6 k7 k8 k9
      obtain ⟨k0, k1, k2, k3, k4, k5, k6, k7, k8, k9, k10⟩ := S1.out.flat
      clear k10
      go_wp2_with fail
      refine (I2.out _).mono ?_
      rintro e w2 ⟨rfl, hb⟩
      have S2 := Lib.hid (S1.out.on hb)
      clear hb S1 k0 k1 k2 k3 k4 k5 k6 k7 k8 k9
      obtain ⟨k0, k1, k2, k3, k4, k5, k6, k7, k8, k9, k10⟩ := S2.out.flat
      clear k10
      obtain ⟨q0, q1, q2, q3⟩ := S2.out.2.2.1
      have HB := Lib.hid S2.out.2.2.2
      go_wp2_with fail
      refine bodyPost_ret (v := .tuple #[.agg #[.int .i64 0, .int .i64 0], .int .i64 1]) (by first | (simp [results, Tryd.results38, go_sem]; done) | (simp [results, Tryd.results38, go_sem, *]; done)) rfl ⟨rfl, ?_⟩
      repeat (first | exact Below.refl _ _ | exact HB.out | refine Below.setCell ?_ (by first | (simp; done) | omega | (simp; omega)) _ | refine Below.alloc ?_ (by first | (simp; done) | omega | (simp; omega)) _ | refine bel_drew ?_)
    | true =>
      rw [hq] at I2
      cases hm : okM d m with
      | false =>
        rw [hm] at J
        simp only [Bool.false_eq_true, false_and, and_false, if_false, (by decide : ¬ (1 : Int) = 0)]
        clear hp hq hm CF0 CP0 E
        go_enter Tryd.func38, Tryd.ntmps38
        obtain ⟨k0, k1, k2, k3, k4, k5, k6, k7, k8, k9, k10⟩ := S0.out.flat
        clear k10
        go_wp2_with fail
        rw [← HW.out]
        clear HW
        refine (I1.out _).mono ?_
        rintro e w1 ⟨rfl, hb⟩
        have S1 := Lib.hid (S0.out.on hb)
        clear hb S0 k0 k1 k2 k3 k4 k5 k6 k7 k8 k9
        obtain ⟨k0, k1, k2, k3, k4, k5, k6, k7, k8, k9, k10⟩ := S1.out.flat
        clear k10
        go_wp2_with fail
        refine (I2.out _).mono ?_
        rintro e w2 ⟨rfl, hb⟩
        have S2 := Lib.hid (S1.out.on hb)
        clear hb S1 k0 k1 k2 k3 k4 k5 k6 k7 k8 k9
        obtain ⟨k0, k1, k2, k3, k4, k5, k6, k7, k8, k9, k10⟩ := S2.out.flat
        clear k10
        go_wp2_with fail
        refine (J.out _).mono ?_
        rintro e w3 ⟨rfl, hb⟩
        have S3 := Lib.hid (S2.out.on hb)
        clear hb S2 k0 k1 k2 k3 k4 k5 k6 k7 k8 k9
        obtain ⟨k0, k1, k2, k3, k4, k5, k6, k7, k8, k9, k10⟩ := S3.out.flat
        clear k10
        obtain ⟨q0, q1, q2, q3⟩ := S3.out.2.2.1
        have HB := Lib.hid S3.out.2.2.2
        go_wp2_with fail
        refine bodyPost_ret (v := .tuple #[.agg #[.int .i64 0, .int .i64 0], .int .i64 1]) (by first | (simp [results, Tryd.results38, go_sem]; done) | (simp [results, Tryd.results38, go_sem, *]; done)) rfl ⟨rfl, ?_⟩
        repeat (first | exact Below.refl _ _ | exact HB.out | refine Below.setCell ?_ (by first | (simp; done) | omega | (simp; omega)) _ | refine Below.alloc ?_ (by first | (simp; done) | omega | (simp; omega)) _ | refine bel_drew ?_)
      | true =>
        rw [hm] at J
        have CF := Lib.hid (CF0.out hq hm)
        have CP := Lib.hid (CP0.out hp hm)
        obtain ⟨_, ⟨b0, b1⟩, _⟩ := planet_bd s a b c hp
        obtain ⟨_, ⟨y0, y1⟩, _⟩ := planet_bd t x y z hq
        have l1 := plX_bd a b c d m b0 b1
        have l2 := plY_bd a b c d m b0 b1
        have l3 := plX_bd x y z d m y0 y1
        have l4 := plY_bd x y z d m y0 y1
        simp only [true_and, and_self, if_true]
        unfold wX wY
        clear hp hq hm CF0 CP0 b0 b1 y0 y1
        generalize plX a b c d m = X at *
        generalize plY a b c d m = Y at *
        generalize plX x y z d m = U at *
        generalize plY x y z d m = V at *
        have NE : ∀ w, (binOp .eql 46 (.agg #[.int .i64 U, .int .i64 V]) (.agg #[.int .i64 X, .int .i64 Y])).run Tryd.prog w = .ok (.bool (decide (U = X ∧ V = Y))) w := fun w => place_eql U V X Y w
        have EG : ∀ p q w, (eqGuard .eql 46 p q (.agg #[.int .i64 U, .int .i64 V]) (.agg #[.int .i64 X, .int .i64 Y])).run Tryd.prog w = .ok () w := fun p q w => run_eqGuard_agg w .eql 46 p q _ _ place_guard
        by_cases hz : U = X ∧ V = Y
        · rw [if_pos (show X - U = 0 ∧ Y - V = 0 from by omega)]
          simp only [(by decide : ¬ (6 : Int) = 0), if_false]
          rw [decide_eq_true hz] at NE
          clear hz
          go_enter Tryd.func38, Tryd.ntmps38
          obtain ⟨k0, k1, k2, k3, k4, k5, k6, k7, k8, k9, k10⟩ := S0.out.flat
          clear k10
          go_wp2_with fail
          rw [← HW.out]
          clear HW
          refine (I1.out _).mono ?_
          rintro e w1 ⟨rfl, hb⟩
          have S1 := Lib.hid (S0.out.on hb)
          clear hb S0 k0 k1 k2 k3 k4 k5 k6 k7 k8 k9
          obtain ⟨k0, k1, k2, k3, k4, k5, k6, k7, k8, k9, k10⟩ := S1.out.flat
          clear k10
          go_wp2_with fail
          refine (I2.out _).mono ?_
          rintro e w2 ⟨rfl, hb⟩
          have S2 := Lib.hid (S1.out.on hb)
          clear hb S1 k0 k1 k2 k3 k4 k5 k6 k7 k8 k9
          obtain ⟨k0, k1, k2, k3, k4, k5, k6, k7, k8, k9, k10⟩ := S2.out.flat
          clear k10
          go_wp2_with fail
          refine (J.out _).mono ?_
          rintro e w3 ⟨rfl, hb⟩
          have S3 := Lib.hid (S2.out.on hb)
          clear hb S2 k0 k1 k2 k3 k4 k5 k6 k7 k8 k9
          obtain ⟨k0, k1, k2, k3, k4, k5, k6, k7, k8, k9, k10⟩ := S3.out.flat
          clear k10
          have E3 := Lib.hid (E.out.below S3.out.2.2.2)
          go_upto_region 3 with fail
          go_cut [6, 7] from 8 (fun s6 s7 wx => ∃ e f : Nat, s6 = .pointer (some ⟨e, 0, none⟩) ∧ s7 = .pointer (some ⟨f, 0, none⟩) ∧ RelW w s a b c t x y z d m U V X Y e f wx)
          case first =>
            have hW3 := S3.out.lt
            go_region_held3 (fun w' => w'.cell? ⟨w.heap.size, 0, none⟩ = some (.string s) ∧ w'.cell? ⟨w.heap.size, 1, none⟩ = some (.int .i64 a) ∧ w'.cell? ⟨w.heap.size, 2, none⟩ = some (.int .i64 b) ∧ w'.cell? ⟨w.heap.size, 3, none⟩ = some (.int .i64 c) ∧ w'.cell? ⟨w.heap.size, 4, none⟩ = some (.string t) ∧ w'.cell? ⟨w.heap.size, 5, none⟩ = some (.int .i64 x) ∧ w'.cell? ⟨w.heap.size, 6, none⟩ = some (.int .i64 y) ∧ w'.cell? ⟨w.heap.size, 7, none⟩ = some (.int .i64 z) ∧ w'.cell? ⟨w.heap.size + 1, 0, none⟩ = some (.int .i64 d) ∧ w'.cell? ⟨w.heap.size + 1, 1, none⟩ = some (.int .i64 m) ∧ Below w.heap.size w w') (first | (refine (S3.out.on ?_).flat; repeat (first | with_reducible exact b2 | with_reducible exact b1 | with_reducible exact Below.refl _ _ | with_reducible refine Below.setCell ?_ (by first | (simp; done) | omega | (simp; omega)) _ | with_reducible refine Below.alloc ?_ (by first | (simp; done) | omega | (simp; omega)) _ | with_reducible refine bel_drew ?_)) | go_keep) ((first
              | (go_at_call 32; (first
                | ((with_reducible refine (CF.out _ (SinesOK.below E3.out (by first | exact bel_drew (Below.refl _ _) | exact bel_drew ((Below.refl _ _).alloc (Nat.le_refl _) _) | exact bel_drew (((Below.refl _ _).alloc (Nat.le_refl _) _).alloc (by simp) _)))).mono ?_); rintro e u1 ⟨rfl, hu1⟩; (first | have b1 := undrewD2 hu1 | have b1 := undrewD1 hu1 | have b1 := undrewP hu1); have b1s := b1.size)
                | ((with_reducible refine (CP.out _ (SinesOK.below E3.out (by first | exact b1 | exact b1.alloc b1.size _ | exact (b1.alloc b1.size _).alloc (b1.alloc b1.size _).size _))).mono ?_); rintro e u2 ⟨rfl, hu2⟩; (first | have b2 := onw2 b1 hu2 | have b2 := onw1 b1 hu2 | have b2 := onw b1 hu2); have b2s := b2.size; have u12 := hu2.size; (first
                  | (have r := Z2.d2 hu1; have ra := r.1.go hu2; have rb := r.2.go hu2; have RA := Lib.hid ra; have la := ra.inn; have na := Nat.ne_of_lt la; have na' := Nat.ne_of_gt la; have RB := Lib.hid rb; have lb := rb.inn; have nb := Nat.ne_of_lt lb; have nb' := Nat.ne_of_gt lb; obtain ⟨qa0, qa1, qa2, qa3⟩ := ra; obtain ⟨qb0, qb1, qb2, qb3⟩ := rb)
                  | (have r := Z2.d1 hu1; have ra := r.go1 hu2; have rb := Z2.l1 hu2; have lr := r.inn; have nr := Nat.ne_of_lt lr; have nr' := Nat.ne_of_gt lr; have RA := Lib.hid ra; have la := ra.inn; have na := Nat.ne_of_lt la; have na' := Nat.ne_of_gt la; have RB := Lib.hid rb; have lb := rb.inn; have nb := Nat.ne_of_lt lb; have nb' := Nat.ne_of_gt lb; obtain ⟨qa0, qa1, qa2, qa3⟩ := ra; obtain ⟨qb0, qb1, qb2, qb3⟩ := rb)
                  | (have r := Z2.d1 hu1; have ra := r.go hu2; have RA := Lib.hid ra; have la := ra.inn; have na := Nat.ne_of_lt la; have na' := Nat.ne_of_gt la; obtain ⟨qa0, qa1, qa2, qa3⟩ := ra)
                  | (have r := Z2.l2 hu2; have ra := r.1; have rb := r.2; have RA := Lib.hid ra; have la := ra.inn; have na := Nat.ne_of_lt la; have na' := Nat.ne_of_gt la; have RB := Lib.hid rb; have lb := rb.inn; have nb := Nat.ne_of_lt lb; have nb' := Nat.ne_of_gt lb; obtain ⟨qa0, qa1, qa2, qa3⟩ := ra; obtain ⟨qb0, qb1, qb2, qb3⟩ := rb)
                  | (have ra := Z2.l1 hu2; have RA := Lib.hid ra; have la := ra.inn; have na := Nat.ne_of_lt la; have na' := Nat.ne_of_gt la; obtain ⟨qa0, qa1, qa2, qa3⟩ := ra)
                  | skip))))))
            all_goals
              rename_i held
              clear held k0 k1 k2 k3 k4 k5 k6 k7 k8 k9
              go_wp2_with fail
              go_meet
              case rel =>
                have hk := Lib.hid (S3.out.on b2)
                refine ⟨_, _, rfl, rfl, ?_⟩
                first
                | with_reducible exact W1 hk.out
                | with_reducible exact W1' hk.out
                | with_reducible exact W2 hk.out RA.out (by omega)
                | with_reducible exact W2' hk.out RA.out (by omega)
                | with_reducible exact W3 hk.out RA.out RB.out (by omega) (by omega) (by omega)
                | with_reducible exact W3 hk.out RB.out RA.out (by omega) (by omega) (by omega)
          case rest =>
            obtain ⟨e, f, rfl, rfl, hne, HE, HF, HS, he, hf⟩ := hcut
            clear S3 k0 k1 k2 k3 k4 k5 k6 k7 k8 k9 CF CP
            obtain ⟨e0, e1, _, _⟩ := HE.out
            obtain ⟨f0, f1, _, _⟩ := HF.out
            obtain ⟨q0, q1, q2, q3⟩ := HS.out.2.2.1
            have HB := Lib.hid HS.out.2.2.2
            go_wp2_with fail
            refine bodyPost_ret (v := .tuple #[.agg #[.int .i64 0, .int .i64 0], .int .i64 6]) (by first | (simp [results, Tryd.results38, go_sem]; done) | (simp [results, Tryd.results38, go_sem, *]; done)) rfl ⟨rfl, ?_⟩
            repeat (first | exact Below.refl _ _ | exact HB.out | refine Below.setCell ?_ (by first | (simp; done) | omega | (simp; omega)) _ | refine Below.alloc ?_ (by first | (simp; done) | omega | (simp; omega)) _ | refine bel_drew ?_)
        · rw [if_neg (show ¬ (X - U = 0 ∧ Y - V = 0) from by omega)]
          simp only [if_true]
          rw [decide_eq_false hz] at NE
          clear hz
          go_enter Tryd.func38, Tryd.ntmps38
          obtain ⟨k0, k1, k2, k3, k4, k5, k6, k7, k8, k9, k10⟩ := S0.out.flat
          clear k10
          go_wp2_with fail
          rw [← HW.out]
          clear HW
          refine (I1.out _).mono ?_
          rintro e w1 ⟨rfl, hb⟩
          have S1 := Lib.hid (S0.out.on hb)
          clear hb S0 k0 k1 k2 k3 k4 k5 k6 k7 k8 k9
          obtain ⟨k0, k1, k2, k3, k4, k5, k6, k7, k8, k9, k10⟩ := S1.out.flat
          clear k10
          go_wp2_with fail
          refine (I2.out _).mono ?_
          rintro e w2 ⟨rfl, hb⟩
          have S2 := Lib.hid (S1.out.on hb)
          clear hb S1 k0 k1 k2 k3 k4 k5 k6 k7 k8 k9
          obtain ⟨k0, k1, k2, k3, k4, k5, k6, k7, k8, k9, k10⟩ := S2.out.flat
          clear k10
          go_wp2_with fail
          refine (J.out _).mono ?_
          rintro e w3 ⟨rfl, hb⟩
          have S3 := Lib.hid (S2.out.on hb)
          clear hb S2 k0 k1 k2 k3 k4 k5 k6 k7 k8 k9
          obtain ⟨k0, k1, k2, k3, k4, k5, k6, k7, k8, k9, k10⟩ := S3.out.flat
          clear k10
          have E3 := Lib.hid (E.out.below S3.out.2.2.2)
          go_upto_region 3 with fail
          go_cut [6, 7] from 8 (fun s6 s7 wx => ∃ e f : Nat, s6 = .pointer (some ⟨e, 0, none⟩) ∧ s7 = .pointer (some ⟨f, 0, none⟩) ∧ RelW w s a b c t x y z d m U V X Y e f wx)
          case first =>
            have hW3 := S3.out.lt
            go_region_held3 (fun w' => w'.cell? ⟨w.heap.size, 0, none⟩ = some (.string s) ∧ w'.cell? ⟨w.heap.size, 1, none⟩ = some (.int .i64 a) ∧ w'.cell? ⟨w.heap.size, 2, none⟩ = some (.int .i64 b) ∧ w'.cell? ⟨w.heap.size, 3, none⟩ = some (.int .i64 c) ∧ w'.cell? ⟨w.heap.size, 4, none⟩ = some (.string t) ∧ w'.cell? ⟨w.heap.size, 5, none⟩ = some (.int .i64 x) ∧ w'.cell? ⟨w.heap.size, 6, none⟩ = some (.int .i64 y) ∧ w'.cell? ⟨w.heap.size, 7, none⟩ = some (.int .i64 z) ∧ w'.cell? ⟨w.heap.size + 1, 0, none⟩ = some (.int .i64 d) ∧ w'.cell? ⟨w.heap.size + 1, 1, none⟩ = some (.int .i64 m) ∧ Below w.heap.size w w') (first | (refine (S3.out.on ?_).flat; repeat (first | with_reducible exact b2 | with_reducible exact b1 | with_reducible exact Below.refl _ _ | with_reducible refine Below.setCell ?_ (by first | (simp; done) | omega | (simp; omega)) _ | with_reducible refine Below.alloc ?_ (by first | (simp; done) | omega | (simp; omega)) _ | with_reducible refine bel_drew ?_)) | go_keep) ((first
              | (go_at_call 32; (first
                | ((with_reducible refine (CF.out _ (SinesOK.below E3.out (by first | exact bel_drew (Below.refl _ _) | exact bel_drew ((Below.refl _ _).alloc (Nat.le_refl _) _) | exact bel_drew (((Below.refl _ _).alloc (Nat.le_refl _) _).alloc (by simp) _)))).mono ?_); rintro e u1 ⟨rfl, hu1⟩; (first | have b1 := undrewD2 hu1 | have b1 := undrewD1 hu1 | have b1 := undrewP hu1); have b1s := b1.size)
                | ((with_reducible refine (CP.out _ (SinesOK.below E3.out (by first | exact b1 | exact b1.alloc b1.size _ | exact (b1.alloc b1.size _).alloc (b1.alloc b1.size _).size _))).mono ?_); rintro e u2 ⟨rfl, hu2⟩; (first | have b2 := onw2 b1 hu2 | have b2 := onw1 b1 hu2 | have b2 := onw b1 hu2); have b2s := b2.size; have u12 := hu2.size; (first
                  | (have r := Z2.d2 hu1; have ra := r.1.go hu2; have rb := r.2.go hu2; have RA := Lib.hid ra; have la := ra.inn; have na := Nat.ne_of_lt la; have na' := Nat.ne_of_gt la; have RB := Lib.hid rb; have lb := rb.inn; have nb := Nat.ne_of_lt lb; have nb' := Nat.ne_of_gt lb; obtain ⟨qa0, qa1, qa2, qa3⟩ := ra; obtain ⟨qb0, qb1, qb2, qb3⟩ := rb)
                  | (have r := Z2.d1 hu1; have ra := r.go1 hu2; have rb := Z2.l1 hu2; have lr := r.inn; have nr := Nat.ne_of_lt lr; have nr' := Nat.ne_of_gt lr; have RA := Lib.hid ra; have la := ra.inn; have na := Nat.ne_of_lt la; have na' := Nat.ne_of_gt la; have RB := Lib.hid rb; have lb := rb.inn; have nb := Nat.ne_of_lt lb; have nb' := Nat.ne_of_gt lb; obtain ⟨qa0, qa1, qa2, qa3⟩ := ra; obtain ⟨qb0, qb1, qb2, qb3⟩ := rb)
                  | (have r := Z2.d1 hu1; have ra := r.go hu2; have RA := Lib.hid ra; have la := ra.inn; have na := Nat.ne_of_lt la; have na' := Nat.ne_of_gt la; obtain ⟨qa0, qa1, qa2, qa3⟩ := ra)
                  | (have r := Z2.l2 hu2; have ra := r.1; have rb := r.2; have RA := Lib.hid ra; have la := ra.inn; have na := Nat.ne_of_lt la; have na' := Nat.ne_of_gt la; have RB := Lib.hid rb; have lb := rb.inn; have nb := Nat.ne_of_lt lb; have nb' := Nat.ne_of_gt lb; obtain ⟨qa0, qa1, qa2, qa3⟩ := ra; obtain ⟨qb0, qb1, qb2, qb3⟩ := rb)
                  | (have ra := Z2.l1 hu2; have RA := Lib.hid ra; have la := ra.inn; have na := Nat.ne_of_lt la; have na' := Nat.ne_of_gt la; obtain ⟨qa0, qa1, qa2, qa3⟩ := ra)
                  | skip))))))
            all_goals
              rename_i held
              clear held k0 k1 k2 k3 k4 k5 k6 k7 k8 k9
              go_wp2_with fail
              go_meet
              case rel =>
                have hk := Lib.hid (S3.out.on b2)
                refine ⟨_, _, rfl, rfl, ?_⟩
                first
                | with_reducible exact W1 hk.out
                | with_reducible exact W1' hk.out
                | with_reducible exact W2 hk.out RA.out (by omega)
                | with_reducible exact W2' hk.out RA.out (by omega)
                | with_reducible exact W3 hk.out RA.out RB.out (by omega) (by omega) (by omega)
                | with_reducible exact W3 hk.out RB.out RA.out (by omega) (by omega) (by omega)
          case rest =>
            obtain ⟨e, f, rfl, rfl, hne, HE, HF, HS, he, hf⟩ := hcut
            clear S3 k0 k1 k2 k3 k4 k5 k6 k7 k8 k9 CF CP
            obtain ⟨e0, e1, _, _⟩ := HE.out
            obtain ⟨f0, f1, _, _⟩ := HF.out
            obtain ⟨q0, q1, q2, q3⟩ := HS.out.2.2.1
            have HB := Lib.hid HS.out.2.2.2
            go_wp2_with fail
            refine bodyPost_ret (v := .tuple #[.agg #[.int .i64 (X - U), .int .i64 (Y - V)], .int .i64 0]) (by first | (simp [results, Tryd.results38, go_sem]; done) | (simp [results, Tryd.results38, go_sem, *]; done)) rfl ⟨rfl, ?_⟩
            repeat (first | exact Below.refl _ _ | exact HB.out | refine Below.setCell ?_ (by first | (simp; done) | omega | (simp; omega)) _ | refine Below.alloc ?_ (by first | (simp; done) | omega | (simp; omega)) _ | refine bel_drew ?_)
end Go.Proofs.YtmdjogjcdjaafaaDoor
