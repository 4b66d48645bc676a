/-
  Time codes: AddFrames (both packages).
-/
import Derived.Test.YtecnhbgkkfcipaaTcF1
import Derived.Deep.Cut
namespace Go.Proofs.Ytecnhbgkkfcipaa.Tc
open Go.RowKit
open Cd (At BAt)
set_option linter.unusedVariables false

set_option maxRecDepth 100000 in
set_option maxHeartbeats 8000000 in
theorem implAdd_any (h m s f r n : Int) (fit : fits m) (w : World) :
    Calls Try.prog 27 #[.agg #[.int .i64 h, .int .i64 m, .int .i64 s, .int .i64 f, .int .i64 r], .int .i64 n] w fun e w' => e = .returned (addV h m s f r n) ∧ Below w.heap.size w w' := by
  unfold addV
  have VA := Lib.hid (fun w => valid_any h m s f r fit w)
  cases ka : okT h m s f r with
  | false =>
    rw [if_neg (by simp)]
    rw [ka] at VA
    clear ka
    go_enter Try.func27, Try.ntmps27
    go_wp2_with fail
    have HB0 : Hid (Below w.heap.size w w) := Lib.hid (Below.refl _ _)
    obtain ⟨wb1, hwwb1⟩ : ∃ W, W = w.alloc (Obj.cells #[Value.int .i64 h, .int .i64 m, .int .i64 s, .int .i64 f, .int .i64 r] 25) := ⟨_, rfl⟩
    rw [← hwwb1]
    have hb : Below w.heap.size w wb1 := by rw [hwwb1]; exact (Below.refl _ _).alloc (Nat.le_refl _) _
    have hzwb1 : wb1.heap.size = w.heap.size + 1 := by rw [hwwb1]; simp
    have QNa := Lib.hid (Cd.BAt.new w (h) (m) (s) (f) (r) 25)
    rw [← hwwb1] at QNa
    clear hwwb1
    have hswb1 := hb.size
    have HB1 := Lib.hid (HB0.out.trans (hb.mono HB0.out.size))
    clear hb
    have Qa_1 := QNa
    clear QNa
    have hla := Qa_1.out.lt
    obtain ⟨qa_0, qa_1, qa_2, qa_3, qa_4⟩ := Qa_1.out
    obtain ⟨wb2, hwwb2⟩ : ∃ W, W = wb1.alloc (Obj.cells #[Value.int .i64 0, .int .i64 0, .int .i64 0, .int .i64 0, .int .i64 0] 25) := ⟨_, rfl⟩
    rw [← hwwb2]
    have hb : Below wb1.heap.size wb1 wb2 := by rw [hwwb2]; exact (Below.refl _ _).alloc (Nat.le_refl _) _
    have hzwb2 : wb2.heap.size = wb1.heap.size + 1 := by rw [hwwb2]; simp
    have QNr := Lib.hid (Cz.BAt.new wb1 (0) (0) (0) (0) (0) 25)
    rw [← hwwb2] at QNr
    clear hwwb2
    rw [hzwb1] at QNr
    clear qa_0 qa_1 qa_2 qa_3 qa_4 hla
    have hswb2 := hb.size
    have HB2 := Lib.hid (HB1.out.trans (hb.mono HB1.out.size))
    have Qa_2 := Lib.hid (Qa_1.out.below hb)
    clear hb Qa_1
    obtain ⟨qa_0, qa_1, qa_2, qa_3, qa_4⟩ := Qa_2.out
    have hla := Qa_2.out.lt
    have Qr_2 := QNr
    clear QNr
    have hlr := Qr_2.out.lt
    obtain ⟨qr_0, qr_1, qr_2, qr_3, qr_4, qr_5, qr_6, qr_7, qr_8, qr_9⟩ := Qr_2.out
    refine (VA.out _).mono ?_
    rintro e w3 ⟨rfl, hb⟩
    clear qa_0 qa_1 qa_2 qa_3 qa_4 qr_0 qr_1 qr_2 qr_3 qr_4 qr_5 qr_6 qr_7 qr_8 qr_9 hla hlr
    have hsw3 := hb.size
    have HB3 := Lib.hid (HB2.out.trans (hb.mono HB2.out.size))
    have Qa_3 := Lib.hid (Qa_2.out.below hb)
    have Qr_3 := Lib.hid (Qr_2.out.below hb)
    clear hb Qa_2 Qr_2
    obtain ⟨qa_0, qa_1, qa_2, qa_3, qa_4⟩ := Qa_3.out
    have hla := Qa_3.out.lt
    obtain ⟨qr_0, qr_1, qr_2, qr_3, qr_4, qr_5, qr_6, qr_7, qr_8, qr_9⟩ := Qr_3.out
    have hlr := Qr_3.out.lt
    go_wp2_with fail
    refine bodyPost_ret (v := .tuple #[.agg #[.int .i64 0, .int .i64 0, .int .i64 0, .int .i64 0, .int .i64 0], .int .i64 1]) (by simp [results, Try.results27, go_sem, qr_0, qr_1, qr_2, qr_3, qr_4, qr_5, qr_6, qr_7, qr_8, qr_9, hlr]; done) rfl ⟨rfl, ?_⟩
    first | exact set5 HB3.out _ (by omega) _ _ _ _ _ | exact al5 HB3.out _ (by omega) _ _ _ _ _ _
  | true =>
    rw [if_pos rfl]
    obtain ⟨fr0, fr1⟩ := frN_bd ka
    obtain ⟨hr, _⟩ := okT_bd ka
    cases kb : inR (-8640000) 8640000 [n] with
    | false =>
      rw [if_neg (by simp)]
      have I := Lib.hid kb
      skip
      rw [ka] at VA
      clear ka kb
      go_enter Try.func27, Try.ntmps27
      go_wp2_with fail
      have HB0 : Hid (Below w.heap.size w w) := Lib.hid (Below.refl _ _)
      obtain ⟨wb1, hwwb1⟩ : ∃ W, W = w.alloc (Obj.cells #[Value.int .i64 h, .int .i64 m, .int .i64 s, .int .i64 f, .int .i64 r] 25) := ⟨_, rfl⟩
      rw [← hwwb1]
      have hb : Below w.heap.size w wb1 := by rw [hwwb1]; exact (Below.refl _ _).alloc (Nat.le_refl _) _
      have hzwb1 : wb1.heap.size = w.heap.size + 1 := by rw [hwwb1]; simp
      have QNa := Lib.hid (Cd.BAt.new w (h) (m) (s) (f) (r) 25)
      rw [← hwwb1] at QNa
      clear hwwb1
      have hswb1 := hb.size
      have HB1 := Lib.hid (HB0.out.trans (hb.mono HB0.out.size))
      clear hb
      have Qa_1 := QNa
      clear QNa
      have hla := Qa_1.out.lt
      obtain ⟨qa_0, qa_1, qa_2, qa_3, qa_4⟩ := Qa_1.out
      obtain ⟨wb2, hwwb2⟩ : ∃ W, W = wb1.alloc (Obj.cells #[Value.int .i64 0, .int .i64 0, .int .i64 0, .int .i64 0, .int .i64 0] 25) := ⟨_, rfl⟩
      rw [← hwwb2]
      have hb : Below wb1.heap.size wb1 wb2 := by rw [hwwb2]; exact (Below.refl _ _).alloc (Nat.le_refl _) _
      have hzwb2 : wb2.heap.size = wb1.heap.size + 1 := by rw [hwwb2]; simp
      have QNr := Lib.hid (Cz.BAt.new wb1 (0) (0) (0) (0) (0) 25)
      rw [← hwwb2] at QNr
      clear hwwb2
      rw [hzwb1] at QNr
      clear qa_0 qa_1 qa_2 qa_3 qa_4 hla
      have hswb2 := hb.size
      have HB2 := Lib.hid (HB1.out.trans (hb.mono HB1.out.size))
      have Qa_2 := Lib.hid (Qa_1.out.below hb)
      clear hb Qa_1
      obtain ⟨qa_0, qa_1, qa_2, qa_3, qa_4⟩ := Qa_2.out
      have hla := Qa_2.out.lt
      have Qr_2 := QNr
      clear QNr
      have hlr := Qr_2.out.lt
      obtain ⟨qr_0, qr_1, qr_2, qr_3, qr_4, qr_5, qr_6, qr_7, qr_8, qr_9⟩ := Qr_2.out
      refine (VA.out _).mono ?_
      rintro e w3 ⟨rfl, hb⟩
      clear qa_0 qa_1 qa_2 qa_3 qa_4 qr_0 qr_1 qr_2 qr_3 qr_4 qr_5 qr_6 qr_7 qr_8 qr_9 hla hlr
      have hsw3 := hb.size
      have HB3 := Lib.hid (HB2.out.trans (hb.mono HB2.out.size))
      have Qa_3 := Lib.hid (Qa_2.out.below hb)
      have Qr_3 := Lib.hid (Qr_2.out.below hb)
      clear hb Qa_2 Qr_2
      obtain ⟨qa_0, qa_1, qa_2, qa_3, qa_4⟩ := Qa_3.out
      have hla := Qa_3.out.lt
      obtain ⟨qr_0, qr_1, qr_2, qr_3, qr_4, qr_5, qr_6, qr_7, qr_8, qr_9⟩ := Qr_3.out
      have hlr := Qr_3.out.lt
      go_wp2_with fail
      refine (within1 _ _ n _ _ _ (by exact new_at _ _ _ _ _ _ (by first | rfl | (simp; done)) rfl)).mono ?_
      rintro e w' ⟨rfl, rfl⟩
      rw [I.out]
      go_wp2_with fail
      refine bodyPost_ret (v := .tuple #[.agg #[.int .i64 0, .int .i64 0, .int .i64 0, .int .i64 0, .int .i64 0], .int .i64 2]) (by simp [results, Try.results27, go_sem, qr_0, qr_1, qr_2, qr_3, qr_4, qr_5, qr_6, qr_7, qr_8, qr_9, hlr]; done) rfl ⟨rfl, ?_⟩
      first | exact set5 HB3.out _ (by omega) _ _ _ _ _ | exact al5 HB3.out _ (by omega) _ _ _ _ _ _
    | true =>
      rw [if_pos rfl]
      have I := Lib.hid kb
      obtain ⟨i0, i1⟩ := (inR_1 _ _ _).1 kb
      have wz : IntKind.i64.wrap (frN h m s f r + n) = frN h m s f r + n := IntWalk.i64_in _ (by omega)
      have CW := Lib.hid (fun w => codeAt_any (frN h m s f r + n) r hr w)
      have FR := Lib.hid (fun w => frame_any h m s f r ka w)
      have RT := Lib.hid (fun w => rateOf_any h m s f r w)
      obtain ⟨R, hR⟩ : ∃ R, R = (if 0 ≤ frN h m s f r + n ∧ frN h m s f r + n < codesN r 1440 then Value.tuple #[.agg #[.int .i64 (hN (frN h m s f r + n) r), .int .i64 (mN (frN h m s f r + n) r), .int .i64 (sN (frN h m s f r + n) r), .int .i64 (fN (frN h m s f r + n) r), .int .i64 r], .int .i64 0] else .tuple #[.agg #[.int .i64 0, .int .i64 0, .int .i64 0, .int .i64 0, .int .i64 0], .int .i64 6]) := ⟨_, rfl⟩
      rw [← hR]
      obtain ⟨y0, y1, y2, y3, y4, kk, hcw, KV0⟩ : ∃ (y0 y1 y2 y3 y4 : Int) (kk : Bool), codeV (frN h m s f r + n) r = .tuple #[.agg #[.int .i64 y0, .int .i64 y1, .int .i64 y2, .int .i64 y3, .int .i64 y4], .bool kk] ∧ (kk = true → R = .tuple #[.agg #[.int .i64 y0, .int .i64 y1, .int .i64 y2, .int .i64 y3, .int .i64 y4], .int .i64 0]) ∧ (kk = false → R = .tuple #[.agg #[.int .i64 0, .int .i64 0, .int .i64 0, .int .i64 0, .int .i64 0], .int .i64 6]) := by
        unfold codeV
        by_cases c : 0 ≤ frN h m s f r + n ∧ frN h m s f r + n < codesN r 1440
        · rw [if_pos c] at hR
          first | rw [if_pos c] | rw [if_pos c.1, decide_eq_true c.2]
          exact ⟨_, _, _, _, _, true, rfl, fun _ => hR, fun h => by cases h⟩
        · rw [if_neg c] at hR
          first
            | (rw [if_neg c]; exact ⟨_, _, _, _, _, false, rfl, (fun h => by cases h), fun _ => hR⟩)
            | (by_cases c0 : 0 ≤ frN h m s f r + n
               · rw [if_pos c0, decide_eq_false (fun x => c ⟨c0, x⟩)]; exact ⟨_, _, _, _, _, false, rfl, (fun h => by cases h), fun _ => hR⟩
               · rw [if_neg c0]; exact ⟨_, _, _, _, _, false, rfl, (fun h => by cases h), fun _ => hR⟩)
      rw [hcw] at CW
      have KV := Lib.hid KV0
      clear KV0 hR hcw
      generalize frN h m s f r = fr at *
      clear hr
      skip
      rw [ka] at VA
      clear ka kb
      go_enter Try.func27, Try.ntmps27
      go_wp2_with fail
      have HB0 : Hid (Below w.heap.size w w) := Lib.hid (Below.refl _ _)
      obtain ⟨wb1, hwwb1⟩ : ∃ W, W = w.alloc (Obj.cells #[Value.int .i64 h, .int .i64 m, .int .i64 s, .int .i64 f, .int .i64 r] 25) := ⟨_, rfl⟩
      rw [← hwwb1]
      have hb : Below w.heap.size w wb1 := by rw [hwwb1]; exact (Below.refl _ _).alloc (Nat.le_refl _) _
      have hzwb1 : wb1.heap.size = w.heap.size + 1 := by rw [hwwb1]; simp
      have QNa := Lib.hid (Cd.BAt.new w (h) (m) (s) (f) (r) 25)
      rw [← hwwb1] at QNa
      clear hwwb1
      have hswb1 := hb.size
      have HB1 := Lib.hid (HB0.out.trans (hb.mono HB0.out.size))
      clear hb
      have Qa_1 := QNa
      clear QNa
      have hla := Qa_1.out.lt
      obtain ⟨qa_0, qa_1, qa_2, qa_3, qa_4⟩ := Qa_1.out
      obtain ⟨wb2, hwwb2⟩ : ∃ W, W = wb1.alloc (Obj.cells #[Value.int .i64 0, .int .i64 0, .int .i64 0, .int .i64 0, .int .i64 0] 25) := ⟨_, rfl⟩
      rw [← hwwb2]
      have hb : Below wb1.heap.size wb1 wb2 := by rw [hwwb2]; exact (Below.refl _ _).alloc (Nat.le_refl _) _
      have hzwb2 : wb2.heap.size = wb1.heap.size + 1 := by rw [hwwb2]; simp
      have QNr := Lib.hid (Cz.BAt.new wb1 (0) (0) (0) (0) (0) 25)
      rw [← hwwb2] at QNr
      clear hwwb2
      rw [hzwb1] at QNr
      clear qa_0 qa_1 qa_2 qa_3 qa_4 hla
      have hswb2 := hb.size
      have HB2 := Lib.hid (HB1.out.trans (hb.mono HB1.out.size))
      have Qa_2 := Lib.hid (Qa_1.out.below hb)
      clear hb Qa_1
      obtain ⟨qa_0, qa_1, qa_2, qa_3, qa_4⟩ := Qa_2.out
      have hla := Qa_2.out.lt
      have Qr_2 := QNr
      clear QNr
      have hlr := Qr_2.out.lt
      obtain ⟨qr_0, qr_1, qr_2, qr_3, qr_4, qr_5, qr_6, qr_7, qr_8, qr_9⟩ := Qr_2.out
      refine (VA.out _).mono ?_
      rintro e w3 ⟨rfl, hb⟩
      clear qa_0 qa_1 qa_2 qa_3 qa_4 qr_0 qr_1 qr_2 qr_3 qr_4 qr_5 qr_6 qr_7 qr_8 qr_9 hla hlr
      have hsw3 := hb.size
      have HB3 := Lib.hid (HB2.out.trans (hb.mono HB2.out.size))
      have Qa_3 := Lib.hid (Qa_2.out.below hb)
      have Qr_3 := Lib.hid (Qr_2.out.below hb)
      clear hb Qa_2 Qr_2
      obtain ⟨qa_0, qa_1, qa_2, qa_3, qa_4⟩ := Qa_3.out
      have hla := Qa_3.out.lt
      obtain ⟨qr_0, qr_1, qr_2, qr_3, qr_4, qr_5, qr_6, qr_7, qr_8, qr_9⟩ := Qr_3.out
      have hlr := Qr_3.out.lt
      go_wp2_with fail
      refine (within1 _ _ n _ _ _ (by exact new_at _ _ _ _ _ _ (by first | rfl | (simp; done)) rfl)).mono ?_
      rintro e w' ⟨rfl, rfl⟩
      rw [I.out]
      go_wp2_with fail
      obtain ⟨wb4, hwwb4⟩ : ∃ W, W = w3.alloc (Obj.cells #[Value.int .i64 n] 2) := ⟨_, rfl⟩
      rw [← hwwb4]
      have hb : Below w3.heap.size w3 wb4 := by rw [hwwb4]; exact (Below.refl _ _).alloc (Nat.le_refl _) _
      clear hwwb4
      clear qa_0 qa_1 qa_2 qa_3 qa_4 qr_0 qr_1 qr_2 qr_3 qr_4 qr_5 qr_6 qr_7 qr_8 qr_9 hla hlr
      have hswb4 := hb.size
      have HB4 := Lib.hid (HB3.out.trans (hb.mono HB3.out.size))
      have Qa_4 := Lib.hid (Qa_3.out.below hb)
      have Qr_4 := Lib.hid (Qr_3.out.below hb)
      clear hb Qa_3 Qr_3
      obtain ⟨qa_0, qa_1, qa_2, qa_3, qa_4⟩ := Qa_4.out
      have hla := Qa_4.out.lt
      obtain ⟨qr_0, qr_1, qr_2, qr_3, qr_4, qr_5, qr_6, qr_7, qr_8, qr_9⟩ := Qr_4.out
      have hlr := Qr_4.out.lt
      have KB : Hid (wb4.cell? ⟨w.heap.size, 0, none⟩ = some (.int .i64 (h)) ∧ wb4.cell? ⟨w.heap.size, 1, none⟩ = some (.int .i64 (m)) ∧ wb4.cell? ⟨w.heap.size, 2, none⟩ = some (.int .i64 (s)) ∧ wb4.cell? ⟨w.heap.size, 3, none⟩ = some (.int .i64 (f)) ∧ wb4.cell? ⟨w.heap.size, 4, none⟩ = some (.int .i64 (r)) ∧ Below wb4.heap.size wb4 wb4) := Lib.hid ⟨qa_0, qa_1, qa_2, qa_3, qa_4, Below.refl _ _⟩
      go_cut [6, 7] from 8 (fun s0 s1 wx => ∃ B : Nat, s0 = .pointer (some ⟨B, 0, none⟩) ∧ s1 = .bool kk ∧ Hid (Res wb4 wx B y0 y1 y2 y3 y4))
      case first =>
        clear qr_0 qr_1 qr_2 qr_3 qr_4 qr_5 qr_6 qr_7 qr_8 qr_9 hlr KV I VA
        go_region_held3 (fun W => W.cell? ⟨w.heap.size, 0, none⟩ = some (.int .i64 (h)) ∧ W.cell? ⟨w.heap.size, 1, none⟩ = some (.int .i64 (m)) ∧ W.cell? ⟨w.heap.size, 2, none⟩ = some (.int .i64 (s)) ∧ W.cell? ⟨w.heap.size, 3, none⟩ = some (.int .i64 (f)) ∧ W.cell? ⟨w.heap.size, 4, none⟩ = some (.int .i64 (r)) ∧ Below wb4.heap.size wb4 W) (first | (with_reducible exact keepW5 KB.out (drewG wb4)) | (with_reducible exact keepW5 KB.out (alD wb4 _)) | (with_reducible exact keepW5 KB.out y3x) | (with_reducible exact keepW5 KB.out (y3x.alloc y3x.size _)) | (with_reducible exact keepW5 KB.out y2x) | (with_reducible exact keepW5 KB.out (y2x.alloc y2x.size _)) | (with_reducible exact keepW5 KB.out y1x) | (with_reducible exact keepW5 KB.out (y1x.alloc y1x.size _)) | (with_reducible exact keepW5 KB.out (set5 y3x _ (Nat.le_refl _) _ _ _ _ _)) | (with_reducible exact keepW5 KB.out (set5 y3x _ y1x.size _ _ _ _ _)) | (with_reducible exact keepW5 KB.out (set5 y3x _ y2x.size _ _ _ _ _)) | go_keep) ((first
          | (go_at_call 55; (with_reducible refine ((CW.out _)).mono ?_); rintro e x3 ⟨rfl, hx3⟩; (first | have y3x := onN y2x hx3 | have y3x := onA y2x hx3); (first | have z3x := z2x.below hx3 | have z3x := (Cz.BAt.new x2 0 0 0 0 0 _).below hx3 | skip); (first | (have zl := z3x; obtain ⟨t0, t1, t2, t3, t4, t5, t6, t7, t8, t9⟩ := zl; have tl := z3x.lt) | skip))
          | (go_at_call 50; (with_reducible refine ((FR.out _)).mono ?_); rintro e x2 ⟨rfl, hx2⟩; (first | have y2x := onN y1x hx2 | have y2x := onA y1x hx2); (first | have z2x := z1x.below hx2 | have z2x := (Cz.BAt.new x1 0 0 0 0 0 _).below hx2 | skip))
          | (go_at_call 46; (with_reducible refine ((RT.out _)).mono ?_); rintro e x1 ⟨rfl, hx1⟩; (first | have y1x := onN (drewG wb4) hx1 | have y1x := onD hx1); (first | have z1x := (Cz.BAt.newD wb4 0 0 0 0 0 _).below hx1 | skip))))
        all_goals
          rename_i held
          clear held
          have HY := Lib.hid y3x
          have HY1 := Lib.hid y1x.size
          have HY2 := Lib.hid y2x.size
          have HY3 := Lib.hid y3x.size
          try (have HZ := Lib.hid z3x)
          go_wp2_with fail
          go_meet
          case rel => first
            | exact ⟨_, rfl, rfl, Lib.hid (Res.fresh HY.out y0 y1 y2 y3 y4 _)⟩
            | exact ⟨_, rfl, rfl, Lib.hid (Res.stored HY.out HZ.out (Nat.le_refl _) y0 y1 y2 y3 y4)⟩
            | exact ⟨_, rfl, rfl, Lib.hid (Res.stored HY.out HZ.out HY1.out y0 y1 y2 y3 y4)⟩
            | exact ⟨_, rfl, rfl, Lib.hid (Res.stored HY.out HZ.out HY2.out y0 y1 y2 y3 y4)⟩
      case rest =>
        obtain ⟨B, rfl, rfl, HM⟩ := hcut
        obtain ⟨w5, rfl⟩ : ∃ W, W = wc := ⟨_, rfl⟩
        have hb := HM.out.below
        have hq := HM.out.at_
        have hh := HM.out.high
        clear KB HM
        clear qa_0 qa_1 qa_2 qa_3 qa_4 qr_0 qr_1 qr_2 qr_3 qr_4 qr_5 qr_6 qr_7 qr_8 qr_9 hla hlr
        have hsw5 := hb.size
        have HB5 := Lib.hid (HB4.out.trans (hb.mono HB4.out.size))
        have Qa_5 := Lib.hid (Qa_4.out.below hb)
        have Qr_5 := Lib.hid (Qr_4.out.below hb)
        clear hb Qa_4 Qr_4
        obtain ⟨qa_0, qa_1, qa_2, qa_3, qa_4⟩ := Qa_5.out
        have hla := Qa_5.out.lt
        obtain ⟨qr_0, qr_1, qr_2, qr_3, qr_4, qr_5, qr_6, qr_7, qr_8, qr_9⟩ := Qr_5.out
        have hlr := Qr_5.out.lt
        obtain ⟨u0, u1, u2, u3, u4⟩ := hq
        have hlB := World.block_lt_of_cell? w5 ⟨B, 0, none⟩ u0
        cases kk with
        | true =>
          have HV := Lib.hid (KV.out.1 rfl)
          go_wp2_with fail
          refine bodyPost_ret (v := .tuple #[.agg #[.int .i64 y0, .int .i64 y1, .int .i64 y2, .int .i64 y3, .int .i64 y4], .int .i64 0]) (by simp [results, Try.results27, go_sem, qr_0, qr_1, qr_2, qr_3, qr_4, qr_5, qr_6, qr_7, qr_8, qr_9, hlr]; done) rfl ⟨by rw [HV.out], ?_⟩
          exact set5 HB5.out _ (by omega) _ _ _ _ _
        | false =>
          have HV := Lib.hid (KV.out.2 rfl)
          go_wp2_with fail
          refine bodyPost_ret (v := .tuple #[.agg #[.int .i64 0, .int .i64 0, .int .i64 0, .int .i64 0, .int .i64 0], .int .i64 6]) (by simp [results, Try.results27, go_sem, qr_0, qr_1, qr_2, qr_3, qr_4, qr_5, qr_6, qr_7, qr_8, qr_9, hlr]; done) rfl ⟨by rw [HV.out], ?_⟩
          exact set5 HB5.out _ (by omega) _ _ _ _ _
end Go.Proofs.Ytecnhbgkkfcipaa.Tc
