/-
  The day of a date: the contract of DayOf (package impl).
-/
import Derived.Test.YtnadgldgdmppkaaDoorDayOf
import Derived.ChangeKeysEq
import Derived.Deep.RegionHeld3
namespace Go.Proofs.YtnadgldgdmppkaaDoor
open Go.RowKit
set_option linter.unusedVariables false

set_option maxRecDepth 100000 in
theorem date_neq (a b c a' b' c' : Int) (w : World) : (binOp .neq 66 (.agg #[.int .i64 a, .int .i64 b, .int .i64 c]) (.agg #[.int .i64 a', .int .i64 b', .int .i64 c'])).run Tryd.prog w = .ok (.bool (!((a == a') && ((b == b') && (c == c'))))) w := by
  rw [run_neq_struct]
  have hs : (Tryd.prog.info? 2).isSome = true := by kernel_rfl
  obtain ⟨i, hi⟩ := Option.isSome_iff_exists.1 hs
  rw [run_equalIn_array w 9999 _ _ Tryd.underlying66 hi]
  have hc : Tryd.prog.cellsOf 2 = 1 := by kernel_rfl
  rw [hc]
  simp [Op.eqItems, go_sem, Tryd.underlying2, List.range_succ]
  by_cases h1 : a = a' <;> by_cases h2 : b = b' <;> by_cases h3 : c = c' <;> simp [h1, h2, h3]
theorem date_guard : Tryd.prog.eqGuardType Tryd.prog.depth 66 = false := by kernel_rfl
theorem undrewX' {W u : World} (h : Below W.drew.heap.size W.drew u) : Below W.heap.size W u := ⟨h.os, h.tape, h.output, h.size, h.block⟩
theorem drewX' (W : World) : Below W.heap.size W W.drew := ⟨rfl, rfl, rfl, Nat.le_refl _, fun _ _ => rfl⟩
theorem keepDD {w W W' : World} {b : Nat} {y m r : Int} (h : W.cell? ⟨b, 0, none⟩ = some (.int .i64 y) ∧ W.cell? ⟨b, 1, none⟩ = some (.int .i64 m) ∧ W.cell? ⟨b, 2, none⟩ = some (.int .i64 r) ∧ Below w.heap.size w W) (hb : Below W.heap.size W W') : W'.cell? ⟨b, 0, none⟩ = some (.int .i64 y) ∧ W'.cell? ⟨b, 1, none⟩ = some (.int .i64 m) ∧ W'.cell? ⟨b, 2, none⟩ = some (.int .i64 r) ∧ Below w.heap.size w W' := by
  obtain ⟨h0, h1, h2, h3⟩ := h
  have l := World.block_lt_of_cell? W ⟨b, 0, none⟩ h0
  obtain ⟨k, _⟩ := bcell hb
  exact ⟨(k _ _ l).trans h0, (k _ _ l).trans h1, (k _ _ l).trans h2, h3.trans (hb.mono h3.size)⟩

set_option maxRecDepth 100000 in
set_option maxHeartbeats 2000000 in
theorem implDayOf_any (y m r : Int) (w : World) (hc : ComOK w) :
    Calls Tryd.prog 18 #[.int .i64 y, .int .i64 m, .int .i64 r] w fun e w' => e = .returned (dayV y m r) ∧ Below w.heap.size w w' := by
  unfold dayV
  have IM := Lib.hid (fun w => isMonth_any y m w)
  have E := Lib.hid hc
  clear hc
  cases h1 : inR 2000 2273 [y] with
  | false =>
    rw [if_neg (by simp)]
    rw [h1, Bool.false_and] at IM
    clear h1
    go_enter Tryd.func18, Tryd.ntmps18
    go_wp2_with fail
    refine (IM.out _).mono ?_
    rintro e w1 ⟨rfl, hb1⟩
    have HB1 := Lib.hid hb1
    clear hb1
    go_wp2_with fail
    go_ret2
    exact ⟨rfl, HB1.out⟩
  | true =>
    rw [if_pos rfl]
    obtain ⟨y0, y1⟩ := (inR_1 _ _ _).1 h1
    rw [h1, Bool.true_and] at IM
    clear h1
    cases h2 : inR 1 12 [m] with
    | false =>
      rw [if_neg (by simp)]
      rw [h2] at IM
      clear h2
      go_enter Tryd.func18, Tryd.ntmps18
      go_wp2_with fail
      refine (IM.out _).mono ?_
      rintro e w1 ⟨rfl, hb1⟩
      have HB1 := Lib.hid hb1
      clear hb1
      go_wp2_with fail
      go_ret2
      exact ⟨rfl, HB1.out⟩
    | true =>
      rw [if_pos rfl]
      obtain ⟨m0, m1⟩ := (inR_1 _ _ _).1 h2
      rw [h2] at IM
      clear h2
      obtain ⟨k, hk⟩ : ∃ k : Nat, y - 2000 = (k : Int) := Int.eq_ofNat_of_zero_le (by omega)
      obtain ⟨j, hj⟩ : ∃ j : Nat, m - 1 = (j : Int) := Int.eq_ofNat_of_zero_le (by omega)
      rw [show (y - 2000).toNat = k by omega, show (m - 1).toNat = j by omega]
      have hy : 2000 + (k : Int) = y := by omega
      have hmj : (j : Int) + 1 = m := by omega
      have hml := mlen_bd y j (by omega)
      cases h3 : inR 1 31 [r] with
      | false =>
        have h5 : inR 1 (mlen y j) [r] = false := by
          cases h6 : inR 1 (mlen y j) [r] with
          | false => rfl
          | true =>
            obtain ⟨a0, a1⟩ := (inR_1 _ _ _).1 h6
            have := (inR_1 1 31 r).2 (by omega)
            rw [h3] at this
            cases this
        rw [h5, if_neg (by simp)]
        have H3 := Lib.hid h3
        clear h3 h5 hml hy hmj hk hj
        go_enter Tryd.func18, Tryd.ntmps18
        go_wp2_with fail
        refine (IM.out _).mono ?_
        rintro e w1 ⟨rfl, hb1⟩
        have HB1 := Lib.hid hb1
        clear hb1
        go_wp2_with fail
        refine (within1 _ _ r _ _ _ (by simp)).mono ?_
        rintro e w' ⟨rfl, rfl⟩
        rw [H3.out]
        go_wp2_with fail
        go_ret2
        exact ⟨rfl, HB1.out.alloc HB1.out.size _⟩
      | true =>
        obtain ⟨r0, r1⟩ := (inR_1 _ _ _).1 h3
        have H3 := Lib.hid h3
        clear h3
        have DD := Lib.hid (fun w hc => dateDay_any k j r (by omega) (by omega) r0 r1 w hc)
        rw [hy, hmj] at DD
        have ID := Lib.hid (fun w => isDayD_any (dayN k j r) w)
        have hdn : dayN k j r = yb k + mb (2000 + (k : Int)) j + (r - 1) := by unfold dayN; omega
        cases h4 : inR 0 99999 [dayN k j r] with
        | false =>
          have hR : (if inR 1 (mlen y j) [r] = true then (if (false : Bool) = true then Value.tuple #[.int .i64 (dayN k j r), .int .i64 0] else .tuple #[.int .i64 0, .int .i64 2]) else .tuple #[.int .i64 0, .int .i64 2]) = .tuple #[.int .i64 0, .int .i64 2] := by split <;> simp
          rw [hR]
          rw [h4] at ID
          clear h4 hR hdn hml
          generalize dayN k j r = n at *
          clear hy hmj hk hj
          go_enter Tryd.func18, Tryd.ntmps18
          go_wp2_with fail
          refine (IM.out _).mono ?_
          rintro e w1 ⟨rfl, hb1⟩
          have HB1 := Lib.hid hb1
          clear hb1
          go_wp2_with fail
          refine (within1 _ _ r _ _ _ (by simp)).mono ?_
          rintro e w' ⟨rfl, rfl⟩
          rw [H3.out]
          go_wp2_with fail
          refine (DD.out _ (E.out.below ((HB1.out.alloc HB1.out.size _).alloc (by have := HB1.out.size; simp; omega) _))).mono ?_
          rintro e w2 ⟨rfl, hb2⟩
          have hB2 : Below w.heap.size w w2 := (((HB1.out.alloc HB1.out.size _).alloc (by have := HB1.out.size; simp; omega) _)).trans (hb2.mono (by have := HB1.out.size; simp; omega))
          have q0 : w2.cell? ⟨w1.heap.size + 1, 0, none⟩ = some (.int .i64 y) := (hb2.cell (p := ⟨w1.heap.size + 1, 0, none⟩) (by simp)).trans (by simp)
          have q1 : w2.cell? ⟨w1.heap.size + 1, 1, none⟩ = some (.int .i64 m) := (hb2.cell (p := ⟨w1.heap.size + 1, 1, none⟩) (by simp)).trans (by simp)
          have q2 : w2.cell? ⟨w1.heap.size + 1, 2, none⟩ = some (.int .i64 r) := (hb2.cell (p := ⟨w1.heap.size + 1, 2, none⟩) (by simp)).trans (by simp)
          obtain ⟨b, hb⟩ : ∃ b, b = w1.heap.size + 1 := ⟨_, rfl⟩
          obtain ⟨W3, hW3⟩ : ∃ W3, W3 = w2 := ⟨_, rfl⟩
          rw [← hb, ← hW3] at q0 q1 q2
          rw [← hW3] at hB2
          have KK : Hid (W3.cell? ⟨b, 0, none⟩ = some (.int .i64 y) ∧ W3.cell? ⟨b, 1, none⟩ = some (.int .i64 m) ∧ W3.cell? ⟨b, 2, none⟩ = some (.int .i64 r) ∧ Below w.heap.size w W3) := Lib.hid ⟨q0, q1, q2, hB2⟩
          have E3 := Lib.hid (E.out.below hB2)
          have HWb := Lib.hid hb
          have HW3 := Lib.hid hW3
          clear q0 q1 q2 hB2 hb hW3 hb2
          go_wp2_with fail
          rw [← HWb.out, ← HW3.out]
          clear HWb HW3
          refine wp_region_held_drew (S := fun W => W.cell? ⟨b, 0, none⟩ = some (.int .i64 y) ∧ W.cell? ⟨b, 1, none⟩ = some (.int .i64 m) ∧ W.cell? ⟨b, 2, none⟩ = some (.int .i64 r) ∧ Below w.heap.size w W) (by kernel_rfl) ?_ (fun hHeld => ?_)
          · exact keepDD KK.out (drewX' W3)
          refine wpAnyH_take (i := 0) rfl (by kernel_rfl) (by kernel_rfl) (by kernel_rfl) (fun _ _ _ h => h) (Or.inl ⟨by kernel_rfl, fun w hSw => by (try dsimp only at hSw); go_simp; (try with_reducible rfl)⟩) hHeld ?_
          try simp only [List.getElem_toArray, List.getElem_cons_zero, List.getElem_cons_succ, Act.put, List.setIfInBounds_toArray, List.set_cons_zero, List.set_cons_succ]
          refine wpAnyH_ready (rs := [1]) (by kernel_rfl) (by simp) ?_
          refine AllReadyH.cons rfl (fun K2 hK => ?_) AllReadyH.nil
          go_simp
          go_at_call 56
          refine (ID.out _).mono ?_
          rintro e x1 ⟨rfl, hx1⟩
          have y1 := undrewX' hx1
          refine hK.out _ _ ?_ (fun hHeld2 => ?_)
          · exact keepDD KK.out y1
          clear hK K2 hHeld hx1 y1 KK
          try simp only [List.getElem_toArray, List.getElem_cons_zero, List.getElem_cons_succ, Act.put, List.setIfInBounds_toArray, List.set_cons_zero, List.set_cons_succ]
          refine wpAnyH_take (i := 2) rfl (by kernel_rfl) (by kernel_rfl) (by kernel_rfl) (fun _ _ _ h => h) (Or.inl ⟨by kernel_rfl, fun w hSw => by (try dsimp only at hSw); go_simp; (try with_reducible rfl)⟩) hHeld2 ?_
          try simp only [List.getElem_toArray, List.getElem_cons_zero, List.getElem_cons_succ, Act.put, List.setIfInBounds_toArray, List.set_cons_zero, List.set_cons_succ]
          refine wpAnyH_take (i := 3) rfl (by kernel_rfl) (by kernel_rfl) (by kernel_rfl) (fun _ _ _ h => h) (Or.inl ⟨by kernel_rfl, fun w hSw => by (try dsimp only at hSw); go_simp; (try with_reducible rfl)⟩) hHeld2 ?_
          try simp only [List.getElem_toArray, List.getElem_cons_zero, List.getElem_cons_succ, Act.put, List.setIfInBounds_toArray, List.set_cons_zero, List.set_cons_succ]
          refine wpAnyH_take (i := 4) rfl (by kernel_rfl) (by kernel_rfl) (by kernel_rfl) (fun _ _ _ h => h) (Or.inr ⟨by kernel_rfl, rfl⟩) hHeld2 ?_
          try simp only [List.getElem_toArray, List.getElem_cons_zero, List.getElem_cons_succ, Act.put, List.setIfInBounds_toArray, List.set_cons_zero, List.set_cons_succ]
          refine wpAnyH_take (i := 5) rfl (by kernel_rfl) (by kernel_rfl) (by kernel_rfl) (fun _ _ _ h => h) (Or.inr ⟨by kernel_rfl, rfl⟩) hHeld2 ?_
          try simp only [List.getElem_toArray, List.getElem_cons_zero, List.getElem_cons_succ, Act.put, List.setIfInBounds_toArray, List.set_cons_zero, List.set_cons_succ]
          refine wpAnyH_take (i := 6) rfl (by kernel_rfl) (by kernel_rfl) (by kernel_rfl) (fun _ _ _ h => h) (Or.inr ⟨by kernel_rfl, rfl⟩) hHeld2 ?_
          try simp only [List.getElem_toArray, List.getElem_cons_zero, List.getElem_cons_succ, Act.put, List.setIfInBounds_toArray, List.set_cons_zero, List.set_cons_succ]
          refine wpAnyH_take (i := 7) rfl (by kernel_rfl) (by kernel_rfl) (by kernel_rfl) (fun _ _ _ h => h) (Or.inr ⟨by kernel_rfl, rfl⟩) hHeld2 ?_
          try simp only [List.getElem_toArray, List.getElem_cons_zero, List.getElem_cons_succ, Act.put, List.setIfInBounds_toArray, List.set_cons_zero, List.set_cons_succ]
          refine wpAnyH_take (i := 8) rfl (by kernel_rfl) (by kernel_rfl) (by kernel_rfl) (fun _ _ _ h => h) (Or.inl ⟨by kernel_rfl, fun w hSw => by (try dsimp only at hSw); go_simp; (try with_reducible rfl)⟩) hHeld2 ?_
          try simp only [List.getElem_toArray, List.getElem_cons_zero, List.getElem_cons_succ, Act.put, List.setIfInBounds_toArray, List.set_cons_zero, List.set_cons_succ]
          refine wpAnyH_done (by kernel_rfl) ?_ _
          have HH : Hid (Below w.heap.size w x1) := Lib.hid hHeld2.2.2.2
          clear hHeld2
          go_wp2_with fail
          go_ret2
          exact ⟨rfl, HH.out⟩
        | true =>
          obtain ⟨n0, n1⟩ := (inR_1 _ _ _).1 h4
          rw [h4] at ID
          have DT := Lib.hid (fun w hc => dateOf_any (dayN k j r) n0 n1 w hc)
          have hb := dayR_bd (dayN k j r) n0 n1
          have hok : inR 1 (mlen y j) [r] = ((2000 + (yearN (dayN k j r) : Int) == y) && (((monN (dayN k j r) : Int) + 1 == m) && (dayR (dayN k j r) + 1 == r))) := by
            cases h6 : inR 1 (mlen y j) [r] with
            | true =>
              obtain ⟨a0, a1⟩ := (inR_1 _ _ _).1 h6
              have hd := day_date k j (r - 1) (by omega) (by omega) (by omega) (by rw [hy]; omega) (by rw [← hdn]; exact n1)
              rw [← hdn] at hd
              have e3 : dayR (dayN k j r) = r - 1 := by
                unfold dayR
                rw [hd.1, hd.2]
                omega
              rw [hd.1, hd.2, e3]
              simp
              omega
            | false =>
              symm
              rw [Bool.and_eq_false_iff, Bool.and_eq_false_iff]
              by_cases c1 : 2000 + (yearN (dayN k j r) : Int) = y
              · right
                by_cases c2 : (monN (dayN k j r) : Int) + 1 = m
                · right
                  have c3 : ¬ dayR (dayN k j r) + 1 = r := by
                    intro c3
                    have e1 : monN (dayN k j r) = j := by omega
                    rw [c1, e1] at hb
                    have := (inR_1 1 (mlen y j) r).2 (by omega)
                    rw [h6] at this
                    cases this
                  simpa using c3
                · left; simpa using c2
              · left; simpa using c1
          have NE : ∀ w, (binOp .neq 66 (.agg #[.int .i64 (2000 + (yearN (dayN k j r) : Int)), .int .i64 ((monN (dayN k j r) : Int) + 1), .int .i64 (dayR (dayN k j r) + 1)]) (.agg #[.int .i64 y, .int .i64 m, .int .i64 r])).run Tryd.prog w = .ok (.bool (!(inR 1 (mlen y j) [r]))) w := fun w => by rw [hok]; exact date_neq _ _ _ _ _ _ w
          have EG : ∀ (p q : Operand) (w : World), (eqGuard .neq 66 p q (.agg #[.int .i64 (2000 + (yearN (dayN k j r) : Int)), .int .i64 ((monN (dayN k j r) : Int) + 1), .int .i64 (dayR (dayN k j r) + 1)]) (.agg #[.int .i64 y, .int .i64 m, .int .i64 r])).run Tryd.prog w = .ok () w := fun p q w => run_eqGuard_agg w .neq 66 p q _ _ date_guard
          clear hok hb hdn h4 n0 n1 hml
          generalize inR 1 (mlen y j) [r] = g at *
          generalize dayN k j r = n at *
          generalize 2000 + (yearN n : Int) = a at *
          generalize (monN n : Int) + 1 = b9 at *
          generalize dayR n + 1 = c at *
          clear hy hmj hk hj
          cases g with
          | false =>
            rw [if_neg (by simp)]
            go_enter Tryd.func18, Tryd.ntmps18
            go_wp2_with fail
            refine (IM.out _).mono ?_
            rintro e w1 ⟨rfl, hb1⟩
            have HB1 := Lib.hid hb1
            clear hb1
            go_wp2_with fail
            refine (within1 _ _ r _ _ _ (by simp)).mono ?_
            rintro e w' ⟨rfl, rfl⟩
            rw [H3.out]
            go_wp2_with fail
            refine (DD.out _ (E.out.below ((HB1.out.alloc HB1.out.size _).alloc (by have := HB1.out.size; simp; omega) _))).mono ?_
            rintro e w2 ⟨rfl, hb2⟩
            have hB2 : Below w.heap.size w w2 := (((HB1.out.alloc HB1.out.size _).alloc (by have := HB1.out.size; simp; omega) _)).trans (hb2.mono (by have := HB1.out.size; simp; omega))
            have q0 : w2.cell? ⟨w1.heap.size + 1, 0, none⟩ = some (.int .i64 y) := (hb2.cell (p := ⟨w1.heap.size + 1, 0, none⟩) (by simp)).trans (by simp)
            have q1 : w2.cell? ⟨w1.heap.size + 1, 1, none⟩ = some (.int .i64 m) := (hb2.cell (p := ⟨w1.heap.size + 1, 1, none⟩) (by simp)).trans (by simp)
            have q2 : w2.cell? ⟨w1.heap.size + 1, 2, none⟩ = some (.int .i64 r) := (hb2.cell (p := ⟨w1.heap.size + 1, 2, none⟩) (by simp)).trans (by simp)
            obtain ⟨b, hb⟩ : ∃ b, b = w1.heap.size + 1 := ⟨_, rfl⟩
            obtain ⟨W3, hW3⟩ : ∃ W3, W3 = w2 := ⟨_, rfl⟩
            rw [← hb, ← hW3] at q0 q1 q2
            rw [← hW3] at hB2
            have KK : Hid (W3.cell? ⟨b, 0, none⟩ = some (.int .i64 y) ∧ W3.cell? ⟨b, 1, none⟩ = some (.int .i64 m) ∧ W3.cell? ⟨b, 2, none⟩ = some (.int .i64 r) ∧ Below w.heap.size w W3) := Lib.hid ⟨q0, q1, q2, hB2⟩
            have E3 := Lib.hid (E.out.below hB2)
            have HWb := Lib.hid hb
            have HW3 := Lib.hid hW3
            clear q0 q1 q2 hB2 hb hW3 hb2
            go_wp2_with fail
            rw [← HWb.out, ← HW3.out]
            clear HWb HW3
            go_region_held3 (fun W => W.cell? ⟨b, 0, none⟩ = some (.int .i64 y) ∧ W.cell? ⟨b, 1, none⟩ = some (.int .i64 m) ∧ W.cell? ⟨b, 2, none⟩ = some (.int .i64 r) ∧ Below w.heap.size w W) (first | (exact keepDD KK.out (drewX' W3)) | (exact keepDD KK.out y2) | (exact keepDD KK.out y1) | go_keep) ((first
              | (go_at_call 56; refine (ID.out _).mono ?_; rintro e x1 ⟨rfl, hx1⟩; have y1 := undrewX' hx1)
              | (go_at_call 57; refine (DT.out _ (E3.out.below y1)).mono ?_; rintro e x2 ⟨rfl, hx2⟩; have y2 := y1.trans (hx2.mono y1.size))))
            rename_i held
            have HH := Lib.hid held.2.2.2
            clear held KK NE EG
            go_wp2_with fail
            go_ret2
            exact ⟨rfl, HH.out⟩
          | true =>
            rw [if_pos rfl, if_pos rfl]
            go_enter Tryd.func18, Tryd.ntmps18
            go_wp2_with fail
            refine (IM.out _).mono ?_
            rintro e w1 ⟨rfl, hb1⟩
            have HB1 := Lib.hid hb1
            clear hb1
            go_wp2_with fail
            refine (within1 _ _ r _ _ _ (by simp)).mono ?_
            rintro e w' ⟨rfl, rfl⟩
            rw [H3.out]
            go_wp2_with fail
            refine (DD.out _ (E.out.below ((HB1.out.alloc HB1.out.size _).alloc (by have := HB1.out.size; simp; omega) _))).mono ?_
            rintro e w2 ⟨rfl, hb2⟩
            have hB2 : Below w.heap.size w w2 := (((HB1.out.alloc HB1.out.size _).alloc (by have := HB1.out.size; simp; omega) _)).trans (hb2.mono (by have := HB1.out.size; simp; omega))
            have q0 : w2.cell? ⟨w1.heap.size + 1, 0, none⟩ = some (.int .i64 y) := (hb2.cell (p := ⟨w1.heap.size + 1, 0, none⟩) (by simp)).trans (by simp)
            have q1 : w2.cell? ⟨w1.heap.size + 1, 1, none⟩ = some (.int .i64 m) := (hb2.cell (p := ⟨w1.heap.size + 1, 1, none⟩) (by simp)).trans (by simp)
            have q2 : w2.cell? ⟨w1.heap.size + 1, 2, none⟩ = some (.int .i64 r) := (hb2.cell (p := ⟨w1.heap.size + 1, 2, none⟩) (by simp)).trans (by simp)
            obtain ⟨b, hb⟩ : ∃ b, b = w1.heap.size + 1 := ⟨_, rfl⟩
            obtain ⟨W3, hW3⟩ : ∃ W3, W3 = w2 := ⟨_, rfl⟩
            rw [← hb, ← hW3] at q0 q1 q2
            rw [← hW3] at hB2
            have KK : Hid (W3.cell? ⟨b, 0, none⟩ = some (.int .i64 y) ∧ W3.cell? ⟨b, 1, none⟩ = some (.int .i64 m) ∧ W3.cell? ⟨b, 2, none⟩ = some (.int .i64 r) ∧ Below w.heap.size w W3) := Lib.hid ⟨q0, q1, q2, hB2⟩
            have E3 := Lib.hid (E.out.below hB2)
            have HWb := Lib.hid hb
            have HW3 := Lib.hid hW3
            clear q0 q1 q2 hB2 hb hW3 hb2
            go_wp2_with fail
            rw [← HWb.out, ← HW3.out]
            clear HWb HW3
            go_region_held3 (fun W => W.cell? ⟨b, 0, none⟩ = some (.int .i64 y) ∧ W.cell? ⟨b, 1, none⟩ = some (.int .i64 m) ∧ W.cell? ⟨b, 2, none⟩ = some (.int .i64 r) ∧ Below w.heap.size w W) (first | (exact keepDD KK.out (drewX' W3)) | (exact keepDD KK.out y2) | (exact keepDD KK.out y1) | go_keep) ((first
              | (go_at_call 56; refine (ID.out _).mono ?_; rintro e x1 ⟨rfl, hx1⟩; have y1 := undrewX' hx1)
              | (go_at_call 57; refine (DT.out _ (E3.out.below y1)).mono ?_; rintro e x2 ⟨rfl, hx2⟩; have y2 := y1.trans (hx2.mono y1.size))))
            rename_i held
            have HH := Lib.hid held.2.2.2
            clear held KK NE EG
            go_wp2_with fail
            go_ret2
            exact ⟨rfl, HH.out⟩

end Go.Proofs.YtnadgldgdmppkaaDoor
