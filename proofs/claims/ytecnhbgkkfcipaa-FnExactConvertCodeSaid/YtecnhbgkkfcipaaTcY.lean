/-
  Time codes: the code with a number (both packages).
-/
import Derived.Test.YtecnhbgkkfcipaaTcX
namespace Go.Proofs.Ytecnhbgkkfcipaa.Tc
open Go.RowKit
open Cd (At BAt)
set_option linter.unusedVariables false

theorem one_in (w : World) (x : Value) (T : TypeId) : (w.alloc (.cells #[x] T)).cell? ⟨w.heap.size, 0, none⟩ = some x := by simp
/-- One lies in a box that may be written. -/
structure Bx (w : World) (b : Nat) (x0 x1 x2 x3 x4 : Int) : Prop where
  at_ : BAt w b x0 x1 x2 x3 x4
  fz : ∀ i : Nat, w.frozen? ⟨b, i, none⟩ = false
theorem Bx.below {w w' : World} {b : Nat} {x0 x1 x2 x3 x4 : Int} (h : Bx w b x0 x1 x2 x3 x4) (hb : Below w.heap.size w w') : Bx w' b x0 x1 x2 x3 x4 :=
  ⟨h.at_.below hb, fun i => (hb.frozen (p := ⟨b, i, none⟩) h.at_.lt).trans (h.fz i)⟩
theorem Bx.new (w : World) (x0 x1 x2 x3 x4 : Int) (T : TypeId) : Bx (w.alloc (.cells #[.int .i64 x0, .int .i64 x1, .int .i64 x2, .int .i64 x3, .int .i64 x4] T)) w.heap.size x0 x1 x2 x3 x4 :=
  ⟨BAt.new w x0 x1 x2 x3 x4 T, fun i => by
    have e := heap_alloc_new w (.cells #[.int .i64 x0, .int .i64 x1, .int .i64 x2, .int .i64 x3, .int .i64 x4] T)
    simp only [World.frozen?, e]
    simp only [Bool.and_eq_false_iff, decide_eq_false_iff_not]
    omega⟩

set_option maxRecDepth 100000 in
set_option maxHeartbeats 4000000 in
theorem codeAt_any (n r : Int) (hr : isR r = true) (w : World) :
    Calls Try.prog 55 #[.int .i64 r, .int .i64 n] w fun e w' => e = .returned (codeV n r) ∧ Below w.heap.size w w' := by
  have CS := Lib.hid (fun w => codes_any r 1440 hr (by omega) (by omega) w)
  have HR := Lib.hid hr
  obtain ⟨z0, z1⟩ := codes_bd hr (a := 1440) (by omega) (by omega)
  have HV : Hid (codeV n r = if 0 ≤ n ∧ n < codesN r 1440 then .tuple #[.agg #[.int .i64 (hN n r), .int .i64 (mN n r), .int .i64 (sN n r), .int .i64 (fN n r), .int .i64 r], .bool true] else .tuple #[.agg #[.int .i64 0, .int .i64 0, .int .i64 0, .int .i64 0, .int .i64 0], .bool false]) := Lib.hid rfl
  generalize hZ : codesN r 1440 = Z at *
  have HZ := Lib.hid hZ
  have wz : IntKind.i64.wrap (Z - 1) = Z - 1 := IntWalk.i64_in _ (by omega)
  clear hr hZ
  generalize codeV n r = R at *
  obtain ⟨W1, hW1⟩ : ∃ W, W = ((w.alloc (Obj.cells #[Value.int .i64 r] 57)).alloc (Obj.cells #[Value.int .i64 n] 2)).alloc (Obj.cells #[Value.int .i64 0, .int .i64 0, .int .i64 0, .int .i64 0, .int .i64 0] 25) := ⟨_, rfl⟩
  have hB1 : Below w.heap.size w W1 := by rw [hW1]; exact (((Below.refl _ _).alloc (Nat.le_refl _) _).alloc (by simp) _).alloc (by simp; omega) _
  have hs1 : W1.heap.size = w.heap.size + 1 + 1 + 1 := by rw [hW1]; simp
  have e1 := one_in (w.alloc (Obj.cells #[Value.int .i64 r] 57)) (.int .i64 n) 2
  have e2 := (((Below.refl _ ((w.alloc (Obj.cells #[Value.int .i64 r] 57)).alloc (Obj.cells #[Value.int .i64 n] 2))).alloc (Nat.le_refl _) (Obj.cells #[Value.int .i64 0, .int .i64 0, .int .i64 0, .int .i64 0, .int .i64 0] 25)).cell (p := ⟨(w.alloc (Obj.cells #[Value.int .i64 r] 57)).heap.size, 0, none⟩) (by simp)).trans e1
  rw [← hW1] at e2
  simp only [World.size_alloc] at e2
  clear e1
  have e0 := (((Below.refl _ (w.alloc (Obj.cells #[Value.int .i64 r] 57))).alloc (Nat.le_refl _) (Obj.cells #[Value.int .i64 n] 2)).alloc (by simp) (Obj.cells #[Value.int .i64 0, .int .i64 0, .int .i64 0, .int .i64 0, .int .i64 0] 25)).cell (p := ⟨w.heap.size, 0, none⟩) (by simp)
  rw [← hW1] at e0
  have e0 := e0.trans (one_in w (.int .i64 r) 57)
  have K : Hid (W1.cell? ⟨w.heap.size, 0, none⟩ = some (.int .i64 r) ∧ W1.cell? ⟨w.heap.size + 1, 0, none⟩ = some (.int .i64 n) ∧ Below w.heap.size w W1) := Lib.hid ⟨e0, e2, hB1⟩
  have hbx := Bx.new ((w.alloc (Obj.cells #[Value.int .i64 r] 57)).alloc (Obj.cells #[Value.int .i64 n] 2)) 0 0 0 0 0 25
  rw [← hW1] at hbx
  simp only [World.size_alloc] at hbx
  have BX := Lib.hid hbx
  have HW := Lib.hid hW1
  have HS1 := Lib.hid hs1
  clear hW1 hbx hB1 hs1 e2 e0
  go_enter Try.func55, Try.ntmps55
  go_wp2_with fail
  rw [← HW.out]
  clear HW
  obtain ⟨k0, k1, kb⟩ := K.out
  go_region_held3 (fun W => W.cell? ⟨w.heap.size, 0, none⟩ = some (.int .i64 r) ∧ W.cell? ⟨w.heap.size + 1, 0, none⟩ = some (.int .i64 n) ∧ Below w.heap.size w W) (first | (exact keepW2 K.out (drewG W1)) | (exact keepW2 K.out y2) | (exact keepW2 K.out ((drewG W1).alloc (Nat.le_refl _) _)) | (exact keepW2 K.out ((Below.refl _ W1).alloc (Nat.le_refl _) _).drew) | go_keep) ((first
    | (go_at_call 74; (with_reducible refine (CS.out _).mono ?_); rintro e x1 ⟨rfl, rfl⟩)
    | (go_at_call 48; (refine (toB (within1 0 (Z - 1) n _ _ _ (by simp))).mono ?_); rintro e x2 ⟨rfl, hx2⟩; have y2 : Below W1.heap.size W1 x2 := Below.trans (by first | exact (drewG W1).alloc (Nat.le_refl _) _ | exact ((Below.refl _ W1).alloc (Nat.le_refl _) _).drew) (hx2.mono (by simp)))))
  all_goals
    rename_i held
    have HX := Lib.hid y2
    have BX2 := Lib.hid (BX.out.below y2)
    have hs2 := y2.size
    have HK := Lib.hid held
    clear held hx2 y2 k0 k1 kb K BX
    cases hin : inR 0 (Z - 1) [n] with
    | false =>
      have hc : ¬ (0 ≤ n ∧ n < Z) := fun c => by
        have := (inR_1 0 (Z - 1) n).2 ⟨c.1, by omega⟩
        rw [hin] at this; cases this
      have hv := HV.out
      rw [if_neg hc] at hv
      subst hv
      clear hc HV hin
      obtain ⟨⟨b0, b1, b2, b3, b4⟩, fz⟩ := BX2.out
      have bl := BX2.out.at_.lt
      have HB := Lib.hid HK.out.2.2
      go_wp2_with fail
      refine bodyPost_ret (v := .tuple #[.agg #[.int .i64 0, .int .i64 0, .int .i64 0, .int .i64 0, .int .i64 0], .bool false]) (by first | (simp [results, Try.results55, go_sem]; done) | (simp [results, Try.results55, go_sem, *]; done)) rfl ⟨rfl, ?_⟩
      repeat (first | exact Below.refl _ _ | exact HB.out | refine Below.setCell ?_ (by first | (simp; done) | omega | (simp; omega)) _ | refine Below.alloc ?_ (by first | (simp; done) | omega | (simp; omega)) _ | refine bel_drew ?_)
    | true =>
      obtain ⟨i0, i1⟩ := (inR_1 _ _ _).1 hin
      clear hin
      have hv := HV.out
      rw [if_pos ⟨i0, by omega⟩] at hv
      have hr := HR.out
      have hlt : n < codesN r 1440 := by rw [HZ.out]; omega
      obtain ⟨e1, e2, e3, e4, p0, p1⟩ := minute_parts hr i0 hlt
      obtain ⟨M0, M1, M2⟩ := minute_at hr i0 hlt
      rw [e1, e2, e3, e4] at hv
      have HV2 := Lib.hid hv
      clear hv
      have SE := Lib.hid (search_any 76 #[.pointer (some ⟨w.heap.size, 0, none⟩), .pointer (some ⟨w.heap.size + 1, 0, none⟩)] 1439 (fun i => decide (n < codesN r ((i : Int) + 1))) x2
        (enters_of Try.func76 (by kernel_rfl) rfl) (by omega)
        (fun W i hb hi => later_in w.heap.size (w.heap.size + 1) i r n hr hi W ((hb.cell (p := ⟨w.heap.size, 0, none⟩) (World.block_lt_of_cell? x2 ⟨w.heap.size, 0, none⟩ HK.out.1)).trans HK.out.1) ((hb.cell (p := ⟨w.heap.size + 1, 0, none⟩) (World.block_lt_of_cell? x2 ⟨w.heap.size + 1, 0, none⟩ HK.out.2.1)).trans HK.out.2.1))
        (minute_mono hr n))
      change Hid (Calls Try.prog _ _ x2 (fun e w' => e = .returned (.int .i64 ((minuteN n r : Nat) : Int)) ∧ _)) at SE
      have C2 := Lib.hid (fun w => codes_any r (minuteN n r : Int) hr (by omega) (by omega) w)
      have L2 := Lib.hid (fun w => left_any r (minuteN n r : Int) (by omega) (by omega) w)
      obtain ⟨cb0, cb1⟩ := codes_bd hr (a := (minuteN n r : Int)) (by omega) (by omega)
      have lb : 0 ≤ leftN r (minuteN n r) ∧ leftN r (minuteN n r) ≤ 2 := by unfold leftN; split <;> (try split) <;> omega
      obtain ⟨l0, l1⟩ := lb
      have rb : 24 ≤ r ∧ r ≤ 30 := by rcases isR_cases hr with rfl | rfl | rfl <;> omega
      obtain ⟨r0, r1⟩ := rb
      clear HV e1 e2 e3 e4 M1 hlt hr CS
      generalize codesN r (minuteN n r : Int) = cm at *
      generalize leftN r (minuteN n r : Int) = lm at *
      generalize minuteN n r = mi at *
      have w1 : IntKind.i64.wrap (n - cm) = n - cm := IntWalk.i64_in _ (by omega)
      have w2 : IntKind.i64.wrap (n - cm + lm) = n - cm + lm := IntWalk.i64_in _ (by omega)
      generalize hrest : n - cm + lm = rest at *
      clear M0
      go_wp2_with fail
      refine SE.out.mono ?_
      rintro e x3 ⟨rfl, hb3⟩
      obtain ⟨g0, g1, gb⟩ := keepW2 HK.out hb3
      have BX3 := Lib.hid (BX2.out.below hb3)
      clear SE hb3 BX2 HK
      go_wp2_with fail
      go_quiet ((first | (go_at_call 74; with_reducible exact quiet_leftT (C2.out _)) | (go_at_call 47; with_reducible exact quiet_leftT (L2.out _))))
      rename Nat => q1
      go_wp2_with fail
      have rz : ¬ r = 0 := by omega
      have q0 : 0 ≤ rest / r := Int.ediv_nonneg p0 (by omega)
      have q2 : rest / r ≤ rest := Int.ediv_le_self _ p0
      have q3 : 0 ≤ rest % r := Int.emod_nonneg _ rz
      have q4 : rest % r < r := Int.emod_lt_of_pos _ (by omega)
      refine wp_region_still_tail 12 (by kernel_rfl) (by kernel_rfl) ?_
      obtain ⟨W5, hW5⟩ : ∃ W : World, W = ({ heap := (x3.drewN q1).heap, tape := (x3.drewN q1).tape, drawn := (x3.drewN q1).drawn + 1, os := (x3.drewN q1).os, output := (x3.drewN q1).output } : World) := ⟨_, rfl⟩
      have hB5 : Below x3.heap.size x3 W5 := by rw [hW5]; exact ⟨rfl, rfl, rfl, Nat.le_refl _, fun _ _ => rfl⟩
      have HB := Lib.hid (gb.trans (hB5.mono gb.size))
      have BX5 := Lib.hid (BX3.out.below hB5)
      rw [← hW5]
      clear hW5 hB5 gb g0 g1 BX3 hrest w1 w2
      simp only [List.take_succ_cons, List.take_zero, List.drop_succ_cons, List.drop_zero]
      repeat still_step
      refine wpStill_nil ?_
      obtain ⟨⟨b0, b1, b2, b3, b4⟩, fz⟩ := BX5.out
      have bl := BX5.out.at_.lt
      go_wp2_with fail
      refine bodyPost_ret (v := .tuple #[.agg #[.int .i64 ((mi : Int) / 60), .int .i64 ((mi : Int) % 60), .int .i64 (rest / r), .int .i64 (rest % r), .int .i64 r], .bool true]) (by simp [results, Try.results55, go_sem, *]; done) rfl ⟨by rw [HV2.out], ?_⟩
      repeat (first | exact Below.refl _ _ | exact HB.out | refine Below.setCell ?_ (by first | (simp; done) | omega | (simp; omega)) _ | refine Below.alloc ?_ (by first | (simp; done) | omega | (simp; omega)) _ | refine bel_drew ?_)
end Go.Proofs.Ytecnhbgkkfcipaa.Tc
