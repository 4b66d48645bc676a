/-
  Time codes: ConvertCode (both packages).
-/
import Derived.Test.YtecnhbgkkfcipaaTcG1
import Derived.Deep.Cut
namespace Go.Proofs.Ytecnhbgkkfcipaa.Tc
open Go.RowKit
open Cd (At BAt)
set_option linter.unusedVariables false

set_option maxRecDepth 100000 in
set_option maxHeartbeats 8000000 in
theorem implCon_any (h m s f r q : Int) (fit : fits m) (w : World) :
    Calls Try.prog 31 #[.agg #[.int .i64 h, .int .i64 m, .int .i64 s, .int .i64 f, .int .i64 r], .int .i64 q] w fun e w' => e = .returned (conV h m s f r q) ∧ Below w.heap.size w w' := by
  unfold conV
  have VA := Lib.hid (fun w => valid_any h m s f r fit w)
  cases ka : okT h m s f r with
  | false =>
    rw [if_neg (by simp)]
    rw [ka] at VA
    clear ka
    go_enter Try.func31, Try.ntmps31
    go_wp2_with fail
    have HB0 : Hid (Below w.heap.size w w) := Lib.hid (Below.refl _ _)
    obtain ⟨wb1, hwwb1⟩ : ∃ W, W = w.alloc (Obj.cells #[Value.int .i64 h, .int .i64 m, .int .i64 s, .int .i64 f, .int .i64 r] 25) := ⟨_, rfl⟩
    rw [← hwwb1]
    have hb : Below w.heap.size w wb1 := by rw [hwwb1]; exact (Below.refl _ _).alloc (Nat.le_refl _) _
    have hzwb1 : wb1.heap.size = w.heap.size + 1 := by rw [hwwb1]; simp
    have QNa := Lib.hid (Cd.BAt.new w (h) (m) (s) (f) (r) 25)
    rw [← hwwb1] at QNa
    clear hwwb1
    have hswb1 := hb.size
    have HB1 := Lib.hid (HB0.out.trans (hb.mono HB0.out.size))
    clear hb
    have Qa_1 := QNa
    clear QNa
    have hla := Qa_1.out.lt
    obtain ⟨qa_0, qa_1, qa_2, qa_3, qa_4⟩ := Qa_1.out
    obtain ⟨wb2, hwwb2⟩ : ∃ W, W = wb1.alloc (Obj.cells #[Value.int .i64 0, .int .i64 0, .int .i64 0, .int .i64 0, .int .i64 0] 25) := ⟨_, rfl⟩
    rw [← hwwb2]
    have hb : Below wb1.heap.size wb1 wb2 := by rw [hwwb2]; exact (Below.refl _ _).alloc (Nat.le_refl _) _
    have hzwb2 : wb2.heap.size = wb1.heap.size + 1 := by rw [hwwb2]; simp
    have QNr := Lib.hid (Cz.BAt.new wb1 (0) (0) (0) (0) (0) 25)
    rw [← hwwb2] at QNr
    clear hwwb2
    rw [hzwb1] at QNr
    clear qa_0 qa_1 qa_2 qa_3 qa_4 hla
    have hswb2 := hb.size
    have HB2 := Lib.hid (HB1.out.trans (hb.mono HB1.out.size))
    have Qa_2 := Lib.hid (Qa_1.out.below hb)
    clear hb Qa_1
    obtain ⟨qa_0, qa_1, qa_2, qa_3, qa_4⟩ := Qa_2.out
    have hla := Qa_2.out.lt
    have Qr_2 := QNr
    clear QNr
    have hlr := Qr_2.out.lt
    obtain ⟨qr_0, qr_1, qr_2, qr_3, qr_4, qr_5, qr_6, qr_7, qr_8, qr_9⟩ := Qr_2.out
    refine (VA.out _).mono ?_
    rintro e w3 ⟨rfl, hb⟩
    clear qa_0 qa_1 qa_2 qa_3 qa_4 qr_0 qr_1 qr_2 qr_3 qr_4 qr_5 qr_6 qr_7 qr_8 qr_9 hla hlr
    have hsw3 := hb.size
    have HB3 := Lib.hid (HB2.out.trans (hb.mono HB2.out.size))
    have Qa_3 := Lib.hid (Qa_2.out.below hb)
    have Qr_3 := Lib.hid (Qr_2.out.below hb)
    clear hb Qa_2 Qr_2
    obtain ⟨qa_0, qa_1, qa_2, qa_3, qa_4⟩ := Qa_3.out
    have hla := Qa_3.out.lt
    obtain ⟨qr_0, qr_1, qr_2, qr_3, qr_4, qr_5, qr_6, qr_7, qr_8, qr_9⟩ := Qr_3.out
    have hlr := Qr_3.out.lt
    go_wp2_with fail
    refine bodyPost_ret (v := .tuple #[.agg #[.int .i64 0, .int .i64 0, .int .i64 0, .int .i64 0, .int .i64 0], .int .i64 1]) (by simp [results, Try.results31, go_sem, qr_0, qr_1, qr_2, qr_3, qr_4, qr_5, qr_6, qr_7, qr_8, qr_9, hlr]; done) rfl ⟨rfl, ?_⟩
    first | exact set5 HB3.out _ (by omega) _ _ _ _ _ | exact al5 HB3.out _ (by omega) _ _ _ _ _ _
  | true =>
    rw [if_pos rfl]
    obtain ⟨fr0, fr1⟩ := frN_bd ka
    obtain ⟨hr, _⟩ := okT_bd ka
    cases kb : isR q with
    | false =>
      rw [if_neg (by simp)]
      have I := Lib.hid (fun w => isValid_any q w)
      rw [kb] at I
      rw [ka] at VA
      clear ka kb
      go_enter Try.func31, Try.ntmps31
      go_wp2_with fail
      have HB0 : Hid (Below w.heap.size w w) := Lib.hid (Below.refl _ _)
      obtain ⟨wb1, hwwb1⟩ : ∃ W, W = w.alloc (Obj.cells #[Value.int .i64 h, .int .i64 m, .int .i64 s, .int .i64 f, .int .i64 r] 25) := ⟨_, rfl⟩
      rw [← hwwb1]
      have hb : Below w.heap.size w wb1 := by rw [hwwb1]; exact (Below.refl _ _).alloc (Nat.le_refl _) _
      have hzwb1 : wb1.heap.size = w.heap.size + 1 := by rw [hwwb1]; simp
      have QNa := Lib.hid (Cd.BAt.new w (h) (m) (s) (f) (r) 25)
      rw [← hwwb1] at QNa
      clear hwwb1
      have hswb1 := hb.size
      have HB1 := Lib.hid (HB0.out.trans (hb.mono HB0.out.size))
      clear hb
      have Qa_1 := QNa
      clear QNa
      have hla := Qa_1.out.lt
      obtain ⟨qa_0, qa_1, qa_2, qa_3, qa_4⟩ := Qa_1.out
      obtain ⟨wb2, hwwb2⟩ : ∃ W, W = wb1.alloc (Obj.cells #[Value.int .i64 0, .int .i64 0, .int .i64 0, .int .i64 0, .int .i64 0] 25) := ⟨_, rfl⟩
      rw [← hwwb2]
      have hb : Below wb1.heap.size wb1 wb2 := by rw [hwwb2]; exact (Below.refl _ _).alloc (Nat.le_refl _) _
      have hzwb2 : wb2.heap.size = wb1.heap.size + 1 := by rw [hwwb2]; simp
      have QNr := Lib.hid (Cz.BAt.new wb1 (0) (0) (0) (0) (0) 25)
      rw [← hwwb2] at QNr
      clear hwwb2
      rw [hzwb1] at QNr
      clear qa_0 qa_1 qa_2 qa_3 qa_4 hla
      have hswb2 := hb.size
      have HB2 := Lib.hid (HB1.out.trans (hb.mono HB1.out.size))
      have Qa_2 := Lib.hid (Qa_1.out.below hb)
      clear hb Qa_1
      obtain ⟨qa_0, qa_1, qa_2, qa_3, qa_4⟩ := Qa_2.out
      have hla := Qa_2.out.lt
      have Qr_2 := QNr
      clear QNr
      have hlr := Qr_2.out.lt
      obtain ⟨qr_0, qr_1, qr_2, qr_3, qr_4, qr_5, qr_6, qr_7, qr_8, qr_9⟩ := Qr_2.out
      refine (VA.out _).mono ?_
      rintro e w3 ⟨rfl, hb⟩
      clear qa_0 qa_1 qa_2 qa_3 qa_4 qr_0 qr_1 qr_2 qr_3 qr_4 qr_5 qr_6 qr_7 qr_8 qr_9 hla hlr
      have hsw3 := hb.size
      have HB3 := Lib.hid (HB2.out.trans (hb.mono HB2.out.size))
      have Qa_3 := Lib.hid (Qa_2.out.below hb)
      have Qr_3 := Lib.hid (Qr_2.out.below hb)
      clear hb Qa_2 Qr_2
      obtain ⟨qa_0, qa_1, qa_2, qa_3, qa_4⟩ := Qa_3.out
      have hla := Qa_3.out.lt
      obtain ⟨qr_0, qr_1, qr_2, qr_3, qr_4, qr_5, qr_6, qr_7, qr_8, qr_9⟩ := Qr_3.out
      have hlr := Qr_3.out.lt
      go_wp2_with fail
      refine (I.out _).mono ?_
      rintro e w' ⟨rfl, rfl⟩
      go_wp2_with fail
      refine bodyPost_ret (v := .tuple #[.agg #[.int .i64 0, .int .i64 0, .int .i64 0, .int .i64 0, .int .i64 0], .int .i64 2]) (by simp [results, Try.results31, go_sem, qr_0, qr_1, qr_2, qr_3, qr_4, qr_5, qr_6, qr_7, qr_8, qr_9, hlr]; done) rfl ⟨rfl, ?_⟩
      first | exact set5 HB3.out _ (by omega) _ _ _ _ _ | exact al5 HB3.out _ (by omega) _ _ _ _ _ _
    | true =>
      rw [if_pos rfl]
      have I := Lib.hid (fun w => isValid_any q w)
      have ml : 0 ≤ milN (frN h m s f r) r ∧ milN (frN h m s f r) r ≤ 120000000 := by
        unfold milN
        rcases isR_cases hr with rfl | rfl | rfl
        · rw [if_neg (by decide)]; omega
        · rw [if_neg (by decide)]; omega
        · rw [if_pos rfl]; omega
      obtain ⟨ml0, ml1⟩ := ml
      have tl : 0 ≤ atN (milN (frN h m s f r) r) q ∧ atN (milN (frN h m s f r) r) q ≤ 10000000 := by
        unfold atN
        rcases isR_cases kb with rfl | rfl | rfl
        · rw [if_neg (by decide)]; omega
        · rw [if_neg (by decide)]; omega
        · rw [if_pos rfl]; omega
      obtain ⟨tl0, tl1⟩ := tl
      have ML := Lib.hid (fun w => toB (milliOf_any (frN h m s f r) r hr fr0 (by omega) w))
      have AT := Lib.hid (fun w => toB (frameAt_any (milN (frN h m s f r) r) q kb ml0 (by omega) w))
      have CW := Lib.hid (fun w => codeAt_any (atN (milN (frN h m s f r) r) q) q kb w)
      have FR := Lib.hid (fun w => frame_any h m s f r ka w)
      have RT := Lib.hid (fun w => rateOf_any h m s f r w)
      obtain ⟨R, hR⟩ : ∃ R, R = (if 0 ≤ atN (milN (frN h m s f r) r) q ∧ atN (milN (frN h m s f r) r) q < codesN q 1440 then Value.tuple #[.agg #[.int .i64 (hN (atN (milN (frN h m s f r) r) q) q), .int .i64 (mN (atN (milN (frN h m s f r) r) q) q), .int .i64 (sN (atN (milN (frN h m s f r) r) q) q), .int .i64 (fN (atN (milN (frN h m s f r) r) q) q), .int .i64 q], .int .i64 0] else .tuple #[.agg #[.int .i64 0, .int .i64 0, .int .i64 0, .int .i64 0, .int .i64 0], .int .i64 6]) := ⟨_, rfl⟩
      rw [← hR]
      obtain ⟨y0, y1, y2, y3, y4, kk, hcw, KV0⟩ : ∃ (y0 y1 y2 y3 y4 : Int) (kk : Bool), codeV (atN (milN (frN h m s f r) r) q) q = .tuple #[.agg #[.int .i64 y0, .int .i64 y1, .int .i64 y2, .int .i64 y3, .int .i64 y4], .bool kk] ∧ (kk = true → R = .tuple #[.agg #[.int .i64 y0, .int .i64 y1, .int .i64 y2, .int .i64 y3, .int .i64 y4], .int .i64 0]) ∧ (kk = false → R = .tuple #[.agg #[.int .i64 0, .int .i64 0, .int .i64 0, .int .i64 0, .int .i64 0], .int .i64 6]) := by
        unfold codeV
        by_cases c : 0 ≤ atN (milN (frN h m s f r) r) q ∧ atN (milN (frN h m s f r) r) q < codesN q 1440
        · rw [if_pos c] at hR
          first | rw [if_pos c] | rw [if_pos c.1, decide_eq_true c.2]
          exact ⟨_, _, _, _, _, true, rfl, fun _ => hR, fun h => by cases h⟩
        · rw [if_neg c] at hR
          first
            | (rw [if_neg c]; exact ⟨_, _, _, _, _, false, rfl, (fun h => by cases h), fun _ => hR⟩)
            | (by_cases c0 : 0 ≤ atN (milN (frN h m s f r) r) q
               · rw [if_pos c0, decide_eq_false (fun x => c ⟨c0, x⟩)]; exact ⟨_, _, _, _, _, false, rfl, (fun h => by cases h), fun _ => hR⟩
               · rw [if_neg c0]; exact ⟨_, _, _, _, _, false, rfl, (fun h => by cases h), fun _ => hR⟩)
      rw [hcw] at CW
      have KV := Lib.hid KV0
      clear KV0 hR hcw
      generalize atN (milN (frN h m s f r) r) q = ft at *
      generalize milN (frN h m s f r) r = ml at *
      generalize frN h m s f r = fr at *
      clear hr
      rw [kb] at I
      rw [ka] at VA
      clear ka kb
      go_enter Try.func31, Try.ntmps31
      go_wp2_with fail
      have HB0 : Hid (Below w.heap.size w w) := Lib.hid (Below.refl _ _)
      obtain ⟨wb1, hwwb1⟩ : ∃ W, W = w.alloc (Obj.cells #[Value.int .i64 h, .int .i64 m, .int .i64 s, .int .i64 f, .int .i64 r] 25) := ⟨_, rfl⟩
      rw [← hwwb1]
      have hb : Below w.heap.size w wb1 := by rw [hwwb1]; exact (Below.refl _ _).alloc (Nat.le_refl _) _
      have hzwb1 : wb1.heap.size = w.heap.size + 1 := by rw [hwwb1]; simp
      have QNa := Lib.hid (Cd.BAt.new w (h) (m) (s) (f) (r) 25)
      rw [← hwwb1] at QNa
      clear hwwb1
      have hswb1 := hb.size
      have HB1 := Lib.hid (HB0.out.trans (hb.mono HB0.out.size))
      clear hb
      have Qa_1 := QNa
      clear QNa
      have hla := Qa_1.out.lt
      obtain ⟨qa_0, qa_1, qa_2, qa_3, qa_4⟩ := Qa_1.out
      obtain ⟨wb2, hwwb2⟩ : ∃ W, W = wb1.alloc (Obj.cells #[Value.int .i64 0, .int .i64 0, .int .i64 0, .int .i64 0, .int .i64 0] 25) := ⟨_, rfl⟩
      rw [← hwwb2]
      have hb : Below wb1.heap.size wb1 wb2 := by rw [hwwb2]; exact (Below.refl _ _).alloc (Nat.le_refl _) _
      have hzwb2 : wb2.heap.size = wb1.heap.size + 1 := by rw [hwwb2]; simp
      have QNr := Lib.hid (Cz.BAt.new wb1 (0) (0) (0) (0) (0) 25)
      rw [← hwwb2] at QNr
      clear hwwb2
      rw [hzwb1] at QNr
      clear qa_0 qa_1 qa_2 qa_3 qa_4 hla
      have hswb2 := hb.size
      have HB2 := Lib.hid (HB1.out.trans (hb.mono HB1.out.size))
      have Qa_2 := Lib.hid (Qa_1.out.below hb)
      clear hb Qa_1
      obtain ⟨qa_0, qa_1, qa_2, qa_3, qa_4⟩ := Qa_2.out
      have hla := Qa_2.out.lt
      have Qr_2 := QNr
      clear QNr
      have hlr := Qr_2.out.lt
      obtain ⟨qr_0, qr_1, qr_2, qr_3, qr_4, qr_5, qr_6, qr_7, qr_8, qr_9⟩ := Qr_2.out
      refine (VA.out _).mono ?_
      rintro e w3 ⟨rfl, hb⟩
      clear qa_0 qa_1 qa_2 qa_3 qa_4 qr_0 qr_1 qr_2 qr_3 qr_4 qr_5 qr_6 qr_7 qr_8 qr_9 hla hlr
      have hsw3 := hb.size
      have HB3 := Lib.hid (HB2.out.trans (hb.mono HB2.out.size))
      have Qa_3 := Lib.hid (Qa_2.out.below hb)
      have Qr_3 := Lib.hid (Qr_2.out.below hb)
      clear hb Qa_2 Qr_2
      obtain ⟨qa_0, qa_1, qa_2, qa_3, qa_4⟩ := Qa_3.out
      have hla := Qa_3.out.lt
      obtain ⟨qr_0, qr_1, qr_2, qr_3, qr_4, qr_5, qr_6, qr_7, qr_8, qr_9⟩ := Qr_3.out
      have hlr := Qr_3.out.lt
      go_wp2_with fail
      refine (I.out _).mono ?_
      rintro e w' ⟨rfl, rfl⟩
      go_wp2_with fail
      have KB : Hid (w3.cell? ⟨w.heap.size, 0, none⟩ = some (.int .i64 (h)) ∧ w3.cell? ⟨w.heap.size, 1, none⟩ = some (.int .i64 (m)) ∧ w3.cell? ⟨w.heap.size, 2, none⟩ = some (.int .i64 (s)) ∧ w3.cell? ⟨w.heap.size, 3, none⟩ = some (.int .i64 (f)) ∧ w3.cell? ⟨w.heap.size, 4, none⟩ = some (.int .i64 (r)) ∧ Below w3.heap.size w3 w3) := Lib.hid ⟨qa_0, qa_1, qa_2, qa_3, qa_4, Below.refl _ _⟩
      go_cut [7, 8] from 9 (fun s0 s1 wx => ∃ B : Nat, s0 = .pointer (some ⟨B, 0, none⟩) ∧ s1 = .bool kk ∧ Hid (Res w3 wx B y0 y1 y2 y3 y4))
      case first =>
        clear qr_0 qr_1 qr_2 qr_3 qr_4 qr_5 qr_6 qr_7 qr_8 qr_9 hlr KV I VA
        go_region_held3 (fun W => W.cell? ⟨w.heap.size, 0, none⟩ = some (.int .i64 (h)) ∧ W.cell? ⟨w.heap.size, 1, none⟩ = some (.int .i64 (m)) ∧ W.cell? ⟨w.heap.size, 2, none⟩ = some (.int .i64 (s)) ∧ W.cell? ⟨w.heap.size, 3, none⟩ = some (.int .i64 (f)) ∧ W.cell? ⟨w.heap.size, 4, none⟩ = some (.int .i64 (r)) ∧ Below w3.heap.size w3 W) (first | (with_reducible exact keepW5 KB.out (drewG w3)) | (with_reducible exact keepW5 KB.out (alD w3 _)) | (with_reducible exact keepW5 KB.out y5x) | (with_reducible exact keepW5 KB.out (y5x.alloc y5x.size _)) | (with_reducible exact keepW5 KB.out y4x) | (with_reducible exact keepW5 KB.out (y4x.alloc y4x.size _)) | (with_reducible exact keepW5 KB.out y3x) | (with_reducible exact keepW5 KB.out (y3x.alloc y3x.size _)) | (with_reducible exact keepW5 KB.out y2x) | (with_reducible exact keepW5 KB.out (y2x.alloc y2x.size _)) | (with_reducible exact keepW5 KB.out y1x) | (with_reducible exact keepW5 KB.out (y1x.alloc y1x.size _)) | (with_reducible exact keepW5 KB.out (set5 y5x _ (Nat.le_refl _) _ _ _ _ _)) | (with_reducible exact keepW5 KB.out (set5 y5x _ y1x.size _ _ _ _ _)) | (with_reducible exact keepW5 KB.out (set5 y5x _ y2x.size _ _ _ _ _)) | (with_reducible exact keepW5 KB.out (set5 y5x _ y3x.size _ _ _ _ _)) | (with_reducible exact keepW5 KB.out (set5 y5x _ y4x.size _ _ _ _ _)) | go_keep) ((first
          | (go_at_call 55; (with_reducible refine ((CW.out _)).mono ?_); rintro e x5 ⟨rfl, hx5⟩; (first | have y5x := onN y4x hx5 | have y5x := onA y4x hx5); (first | have z5x := z4x.below hx5 | have z5x := (Cz.BAt.new x4 0 0 0 0 0 _).below hx5 | skip); (first | (have zl := z5x; obtain ⟨t0, t1, t2, t3, t4, t5, t6, t7, t8, t9⟩ := zl; have tl := z5x.lt) | skip))
          | (go_at_call 62; (with_reducible refine ((AT.out _)).mono ?_); rintro e x4 ⟨rfl, hx4⟩; (first | have y4x := onN y3x hx4 | have y4x := onA y3x hx4); (first | have z4x := z3x.below hx4 | have z4x := (Cz.BAt.new x3 0 0 0 0 0 _).below hx4 | skip))
          | (go_at_call 58; (with_reducible refine ((ML.out _)).mono ?_); rintro e x3 ⟨rfl, hx3⟩; (first | have y3x := onN y2x hx3 | have y3x := onA y2x hx3); (first | have z3x := z2x.below hx3 | have z3x := (Cz.BAt.new x2 0 0 0 0 0 _).below hx3 | skip))
          | (go_at_call 50; (with_reducible refine ((FR.out _)).mono ?_); rintro e x2 ⟨rfl, hx2⟩; (first | have y2x := onN y1x hx2 | have y2x := onA y1x hx2); (first | have z2x := z1x.below hx2 | have z2x := (Cz.BAt.new x1 0 0 0 0 0 _).below hx2 | skip))
          | (go_at_call 46; (with_reducible refine ((RT.out _)).mono ?_); rintro e x1 ⟨rfl, hx1⟩; (first | have y1x := onN (drewG w3) hx1 | have y1x := onD hx1); (first | have z1x := (Cz.BAt.newD w3 0 0 0 0 0 _).below hx1 | skip))))
        all_goals
          rename_i held
          clear held
          have HY := Lib.hid y5x
          have HY1 := Lib.hid y1x.size
          have HY2 := Lib.hid y2x.size
          have HY3 := Lib.hid y3x.size
          have HY4 := Lib.hid y4x.size
          have HY5 := Lib.hid y5x.size
          try (have HZ := Lib.hid z5x)
          go_wp2_with fail
          go_meet
          case rel => first
            | exact ⟨_, rfl, rfl, Lib.hid (Res.fresh HY.out y0 y1 y2 y3 y4 _)⟩
            | exact ⟨_, rfl, rfl, Lib.hid (Res.stored HY.out HZ.out (Nat.le_refl _) y0 y1 y2 y3 y4)⟩
            | exact ⟨_, rfl, rfl, Lib.hid (Res.stored HY.out HZ.out HY1.out y0 y1 y2 y3 y4)⟩
            | exact ⟨_, rfl, rfl, Lib.hid (Res.stored HY.out HZ.out HY2.out y0 y1 y2 y3 y4)⟩
            | exact ⟨_, rfl, rfl, Lib.hid (Res.stored HY.out HZ.out HY3.out y0 y1 y2 y3 y4)⟩
            | exact ⟨_, rfl, rfl, Lib.hid (Res.stored HY.out HZ.out HY4.out y0 y1 y2 y3 y4)⟩
      case rest =>
        obtain ⟨B, rfl, rfl, HM⟩ := hcut
        obtain ⟨w4, rfl⟩ : ∃ W, W = wc := ⟨_, rfl⟩
        have hb := HM.out.below
        have hq := HM.out.at_
        have hh := HM.out.high
        clear KB HM
        clear qa_0 qa_1 qa_2 qa_3 qa_4 qr_0 qr_1 qr_2 qr_3 qr_4 qr_5 qr_6 qr_7 qr_8 qr_9 hla hlr
        have hsw4 := hb.size
        have HB4 := Lib.hid (HB3.out.trans (hb.mono HB3.out.size))
        have Qa_4 := Lib.hid (Qa_3.out.below hb)
        have Qr_4 := Lib.hid (Qr_3.out.below hb)
        clear hb Qa_3 Qr_3
        obtain ⟨qa_0, qa_1, qa_2, qa_3, qa_4⟩ := Qa_4.out
        have hla := Qa_4.out.lt
        obtain ⟨qr_0, qr_1, qr_2, qr_3, qr_4, qr_5, qr_6, qr_7, qr_8, qr_9⟩ := Qr_4.out
        have hlr := Qr_4.out.lt
        obtain ⟨u0, u1, u2, u3, u4⟩ := hq
        have hlB := World.block_lt_of_cell? w4 ⟨B, 0, none⟩ u0
        cases kk with
        | true =>
          have HV := Lib.hid (KV.out.1 rfl)
          go_wp2_with fail
          refine bodyPost_ret (v := .tuple #[.agg #[.int .i64 y0, .int .i64 y1, .int .i64 y2, .int .i64 y3, .int .i64 y4], .int .i64 0]) (by simp [results, Try.results31, go_sem, qr_0, qr_1, qr_2, qr_3, qr_4, qr_5, qr_6, qr_7, qr_8, qr_9, hlr]; done) rfl ⟨by rw [HV.out], ?_⟩
          exact set5 HB4.out _ (by omega) _ _ _ _ _
        | false =>
          have HV := Lib.hid (KV.out.2 rfl)
          go_wp2_with fail
          refine bodyPost_ret (v := .tuple #[.agg #[.int .i64 0, .int .i64 0, .int .i64 0, .int .i64 0, .int .i64 0], .int .i64 6]) (by simp [results, Try.results31, go_sem, qr_0, qr_1, qr_2, qr_3, qr_4, qr_5, qr_6, qr_7, qr_8, qr_9, hlr]; done) rfl ⟨by rw [HV.out], ?_⟩
          exact set5 HB4.out _ (by omega) _ _ _ _ _
end Go.Proofs.Ytecnhbgkkfcipaa.Tc
