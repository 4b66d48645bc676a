/-
  Stars read from texts: the contract of ReadStar (package impl).
-/
import Derived.Test.YtfiabcmjcpjmiaaDoorRSt
namespace Go.Proofs.YtfiabcmjcpjmiaaDoor
open Go.RowKit
set_option linter.unusedVariables false

set_option maxRecDepth 100000 in
set_option maxHeartbeats 4000000 in
theorem implRS_any (s : ByteArray) (hs : s.size ≤ 1048576) (w : World) (ht : TabOK w) (he : ErrOK w) (hlen : LenOK w) :
    Calls Tryd.prog 9 #[.string s] w fun e w' => e = .returned (rsV s.data.toList) ∧ Below w.heap.size w w' := by
  have HP : Hid (0 < (bs (spl 32 s.data.toList)).length) := Lib.hid (by rw [bs_len]; exact List.length_pos_iff.2 (spl_ne 32 _))
  have PS := part_size s 32
  have TE := Lib.hid ht
  have EE := Lib.hid he
  have LE := Lib.hid hlen
  clear ht he hlen
  by_cases hl : (spl 32 s.data.toList).length = 5
  · obtain ⟨n, t1, t2, t3, t4, hx⟩ : ∃ n t1 t2 t3 t4, spl 32 s.data.toList = [n, t1, t2, t3, t4] := by
      generalize spl 32 s.data.toList = xs at hl
      match xs, hl with
      | [n, t1, t2, t3, t4], _ => exact ⟨n, t1, t2, t3, t4, rfl⟩
    have WS : Hid (∀ m, m < 5 → (⟨(wdT n t1 t2 t3 t4 m).toArray⟩ : ByteArray).size ≤ 1048576) := Lib.hid (by
      intro m hm
      have h := PS m (by omega)
      rw [wd_get _ n t1 t2 t3 t4 hx m (by omega)] at h
      omega)
    have WG : Hid (∀ m, (h : m < (spl 32 s.data.toList).length) → (spl 32 s.data.toList)[m] = wdT n t1 t2 t3 t4 m) := Lib.hid (wd_get _ n t1 t2 t3 t4 hx)
    have hns : (⟨n.toArray⟩ : ByteArray).size ≤ 1048576 := WS.out 0 (by omega)
    have RB := Lib.hid (rsV_bad s.data.toList n t1 t2 t3 t4 hx)
    have RA := Lib.hid (rsV_at s.data.toList n t1 t2 t3 t4 hx)
    have ZN := Lib.hid (zsT_next n t1 t2 t3 t4)
    have ZL := Lib.hid (zsT_len t1 t2 t3 t4)
    have Z5 : Hid (zsT t1 t2 t3 t4 5 = [numV t1, numV t2, numV t3, numV t4]) := Lib.hid rfl
    have W0 : Hid (wdT n t1 t2 t3 t4 0 = n ∧ wdT n t1 t2 t3 t4 1 = t1 ∧ wdT n t1 t2 t3 t4 2 = t2 ∧ wdT n t1 t2 t3 t4 3 = t3 ∧ wdT n t1 t2 t3 t4 4 = t4) := Lib.hid ⟨rfl, rfl, rfl, rfl, rfl⟩
    have RD : Hid (∀ m, m < 5 → ∀ w, TabOK w → ErrOK w → Calls Tryd.prog 24 #[.string ⟨(wdT n t1 t2 t3 t4 m).toArray⟩] w fun e w' => e = .returned (.tuple #[.int .i64 (numV (wdT n t1 t2 t3 t4 m)), .bool (numOk (wdT n t1 t2 t3 t4 m))]) ∧ Below w.heap.size w w') := Lib.hid (by
      intro m hm w ht he
      have h := implRead_any ⟨(wdT n t1 t2 t3 t4 m).toArray⟩ w (WS.out m hm) ht he
      rw [data_ofS] at h
      exact h)
    have V := Lib.hid (fun w a b c d => validStar_any ⟨n.toArray⟩ a b c d (by unfold maxLen; omega) w)
    have SV : Hid (∀ a b c d, stV n a b c d = if starB ⟨n.toArray⟩ a b c d = true then .tuple #[.agg #[.string ⟨n.toArray⟩, .int .i64 a, .int .i64 b, .int .i64 c, .int .i64 d], .bool true] else .tuple #[.agg #[.string ⟨#[]⟩, .int .i64 0, .int .i64 0, .int .i64 0, .int .i64 0], .bool false]) := Lib.hid (fun _ _ _ _ => rfl)
    generalize rsV s.data.toList = R at *
    generalize wdT n t1 t2 t3 t4 = W at *
    generalize zsT t1 t2 t3 t4 = Z at *
    generalize stV n = S at *
    generalize starB ⟨n.toArray⟩ = G at *
    generalize hN0 : (⟨n.toArray⟩ : ByteArray) = ns at *
    have HN0 := Lib.hid hN0
    clear hN0 hns PS
    obtain ⟨x1, hx1⟩ : ∃ x1, x1 = numV t1 := ⟨_, rfl⟩
    rw [← hx1] at RA
    have X1 : Hid (numV t1 = x1) := Lib.hid hx1.symm
    clear hx1
    obtain ⟨x2, hx2⟩ : ∃ x2, x2 = numV t2 := ⟨_, rfl⟩
    rw [← hx2] at RA
    have X2 : Hid (numV t2 = x2) := Lib.hid hx2.symm
    clear hx2
    obtain ⟨x3, hx3⟩ : ∃ x3, x3 = numV t3 := ⟨_, rfl⟩
    rw [← hx3] at RA
    have X3 : Hid (numV t3 = x3) := Lib.hid hx3.symm
    clear hx3
    obtain ⟨x4, hx4⟩ : ∃ x4, x4 = numV t4 := ⟨_, rfl⟩
    rw [← hx4] at RA
    have X4 : Hid (numV t4 = x4) := Lib.hid hx4.symm
    clear hx4
    obtain ⟨i0, hi, hz0, hz1, hz2⟩ := info_parts info_i64
    have HI0 := Lib.hid hi
    have HZ0 := Lib.hid hz0
    have HZ1 := Lib.hid hz1
    have HZ2 := Lib.hid hz2
    clear hi hz0 hz1 hz2
    clear hx
    have Z0 : Hid (SZ5 (w.alloc (.cells #[.string ⟨#[]⟩, .int .i64 0, .int .i64 0, .int .i64 0, .int .i64 0] 23)) w.heap.size ⟨#[]⟩ 0 0 0 0) := Lib.hid (SZ5.new _ _ _ _ _ _ _)
    have hb0 : Hid (Below w.heap.size w (w.alloc (.cells #[.string ⟨#[]⟩, .int .i64 0, .int .i64 0, .int .i64 0, .int .i64 0] 23))) := Lib.hid ((Below.refl _ _).alloc (Nat.le_refl _) _)
    go_enter Tryd.func9, Tryd.ntmps9
    go_wp2_with fail
    refine (split_any s 32 _ hs (LE.out.below hb0.out)).mono ?_
    rintro e w1 ⟨v, rfl, hown1, hb1⟩
    obtain ⟨g, cap, rfl⟩ := Go.Joins.ownsRow_form hown1 HP.out
    have hgl := (hown1.lt g rfl).2
    have Z1 := Lib.hid (Z0.out.go hb1)
    have HB1 := Lib.hid (hb0.out.trans (hb1.mono hb0.out.size))
    rw [bs_len] at hown1 ⊢
    clear hb1 hb0 Z0
    rw [hl] at hown1 ⊢
    have CE : Hid (∀ m, m < 5 → w1.cell? ⟨g, m, none⟩ = some (.string ⟨(W m).toArray⟩)) := Lib.hid (by
      intro m hm
      rw [hown1.cellAt m (by omega), List.getElem?_map, bs_get _ m (by omega), WG.out m (by omega)]
      rfl)
    have hcap : 5 ≤ cap := by
      rcases hown1.2 with ⟨hv, _⟩ | ⟨g1, cap1, cur, hv, _, _, hc, _⟩
      · cases hv
      · injection hv with _ _ e3; omega
    clear hown1 WG hl
    have AR : Hid ((w1.alloc (.cells #[.int .i64 0, .int .i64 0, .int .i64 0, .int .i64 0] 46)).rowIs w1.heap.size 46 4 (fun _ => .int .i64 0)) := Lib.hid (World.rowIs_alloc w1 #[.int .i64 0, .int .i64 0, .int .i64 0, .int .i64 0] 46 (fun _ => .int .i64 0) (fun k hk => by
      have hk4 : k < 4 := hk
      rcases (by omega : k = 0 ∨ k = 1 ∨ k = 2 ∨ k = 3) with rfl | rfl | rfl | rfl <;> rfl))
    go_wp2_with fail
    go_loopg [21] 4 (fun kx s21 wr => ∃ (j : Nat) (f : Nat → Int), s21 = .int .i64 (j : Int) ∧ j ≤ 4 ∧ kx = 4 - j ∧ Hid (∀ k, 1 ≤ k → k < j + 1 → numOk (W k) = true) ∧ Hid (∀ k, k < j → f k = numV (W (k + 1))) ∧ Hid (wr.rowIs w1.heap.size 46 4 (fun k => .int .i64 (f k))) ∧ Hid (Below w1.heap.size w1 wr))
    case atStart => exact ⟨0, fun _ => 0, rfl, Nat.zero_le _, rfl, Lib.hid (fun k a b => absurd a (by omega)), Lib.hid (fun k h => absurd h (by omega)), AR, Lib.hid ((Below.refl _ _).alloc (Nat.le_refl _) _)⟩
    case round =>
      obtain ⟨j, f, rfl, hm, rfl, HK, HF, HR, HB⟩ := hrel
      have Z2 := Lib.hid (Z1.out.go HB.out)
      have HB2 := Lib.hid (HB1.out.trans (HB.out.mono HB1.out.size))
      by_cases hlt : j < 4
      · have j0 : (0 : Int) ≤ (j : Int) := by omega
        have j1 : (j : Int) < 4 := by omega
        have cm : wr.cell? ⟨g, 1 + j, none⟩ = some (.string ⟨(W (j + 1)).toArray⟩) := by rw [Nat.add_comm 1 j]; exact (HB.out.cell (p := ⟨g, j + 1, none⟩) hgl).trans (CE.out (j + 1) (by omega))
        have cm2 : wr.cell? ⟨g, j + 1, none⟩ = some (.string ⟨(W (j + 1)).toArray⟩) := (HB.out.cell (p := ⟨g, j + 1, none⟩) hgl).trans (CE.out (j + 1) (by omega))
        have RM := Lib.hid (RD.out (j + 1) (by omega))
        have RBm := Lib.hid (RB.out (j + 1) (by omega) (by omega))
        have KM : Hid (numOk (W (j + 1)) = true → ∀ k, 1 ≤ k → k < j + 1 + 1 → numOk (W k) = true) := Lib.hid (by
          intro h k a b
          by_cases e : k = j + 1
          · rw [e]; exact h
          · exact HK.out k a (by omega))
        have FM : Hid (∀ k, k < j + 1 → (if k = j then numV (W (j + 1)) else f k) = numV (W (k + 1))) := Lib.hid (by
          intro k h
          by_cases e : k = j
          · rw [if_pos e, e]
          · rw [if_neg e]; exact HF.out k (by omega))
        generalize W (j + 1) = tx at *
        cases hok : numOk tx with
        | false =>
          have RR := Lib.hid (RBm.out hok)
          rw [hok] at RM
          clear hok KM
          go_wp2_with fail
          refine (RM.out _ (TE.out.below HB2.out) (EE.out.below HB2.out)).mono ?_
          rintro e w5 ⟨rfl, hb5⟩
          have Z5' := Lib.hid (Z2.out.go hb5)
          have HB5 := Lib.hid (HB2.out.trans (hb5.mono HB2.out.size))
          clear hb5 cm cm2
          obtain ⟨q0, q1, q2, q3, q4, f0, f1, f2, f3, f4⟩ := Z5'.out
          go_wp2_with fail
          rw [RR.out]
          refine bodyPost_ret (v := .tuple #[.agg #[.string ⟨#[]⟩, .int .i64 0, .int .i64 0, .int .i64 0, .int .i64 0], .bool false]) (by first | (simp [results, Tryd.results9, go_sem]; done) | (simp [results, Tryd.results9, go_sem, *]; done)) rfl ⟨rfl, ?_⟩
          repeat (first | exact Below.refl _ _ | exact HB5.out | refine Below.setCell ?_ (by first | (simp; done) | omega | (simp; omega)) _ | refine Below.alloc ?_ (by first | (simp; done) | omega | (simp; omega)) _ | refine bel_drew ?_)
        | true =>
          have K2 := Lib.hid (KM.out hok)
          rw [hok] at RM
          clear hok KM RBm
          generalize numV tx = x at *
          go_wp2_with fail
          refine (RM.out _ (TE.out.below HB2.out) (EE.out.below HB2.out)).mono ?_
          rintro e w5 ⟨rfl, hb5⟩
          have hR5 : w5.rowIs w1.heap.size 46 4 (fun k => .int .i64 (f k)) := World.rowIs.of_block HR.out (hb5.block _ HR.out.lt)
          have a5 : w5.cell? ⟨w1.heap.size, j, none⟩ = some (.int .i64 (f j)) := World.rowIs.cell hR5 hlt
          have g5 : w5.frozen? ⟨w1.heap.size, j, none⟩ = false := World.rowIs.frozen hR5 j
          have R6 := Lib.hid (World.rowIs.congr (World.rowIs.set hR5 j (.int .i64 x)) (g := fun k => .int .i64 (if k = j then x else f k)) (fun k _ => by show (if k = j then _ else _) = _; split <;> rfl))
          have B6 : Hid (Below w1.heap.size w1 (w5.setCell ⟨w1.heap.size, j, none⟩ (.int .i64 x))) := Lib.hid ((HB.out.trans (hb5.mono HB.out.size)).setCell (p := ⟨w1.heap.size, j, none⟩) (Nat.le_refl _) _)
          clear hb5 cm cm2 hR5
          generalize f j = fj at a5
          go_wp2_with fail
          go_roundg (4 - (j + 1))
          case measure => omega
          case rel => exact ⟨j + 1, _, by go_num, by omega, by omega, K2, FM, R6, B6⟩
      · obtain rfl : j = 4 := by omega
        have RF := Lib.hid (RA.out (fun k a b => HK.out k a (by omega)))
        obtain ⟨_, w01, w02, w03, w04⟩ := W0.out
        have a0 := World.rowIs.cell HR.out (show 0 < 4 by omega)
        have a1 := World.rowIs.cell HR.out (show 1 < 4 by omega)
        have a2 := World.rowIs.cell HR.out (show 2 < 4 by omega)
        have a3 := World.rowIs.cell HR.out (show 3 < 4 by omega)
        rw [HF.out 0 (by omega), w01, X1.out] at a0
        rw [HF.out 1 (by omega), w02, X2.out] at a1
        rw [HF.out 2 (by omega), w03, X3.out] at a2
        rw [HF.out 3 (by omega), w04, X4.out] at a3
        clear w01 w02 w03 w04
        have m0 := a0
        have m1 := a1
        have m2 := a2
        have m3 := a3
        clear a0 a1 a2 a3
        have e0 : wr.cell? ⟨g, 0, none⟩ = some (.string ns) := by
          rw [← HN0.out, ← W0.out.1]
          exact (HB.out.cell (p := ⟨g, 0, none⟩) hgl).trans (CE.out 0 (by omega))
        have KK : Hid (wr.cell? ⟨g, 0, none⟩ = some (.string ns) ∧ wr.cell? ⟨w1.heap.size, 0, none⟩ = some (.int .i64 x1) ∧ wr.cell? ⟨w1.heap.size, 1, none⟩ = some (.int .i64 x2) ∧ wr.cell? ⟨w1.heap.size, 2, none⟩ = some (.int .i64 x3) ∧ wr.cell? ⟨w1.heap.size, 3, none⟩ = some (.int .i64 x4) ∧ Below wr.heap.size wr wr) := Lib.hid ⟨e0, m0, m1, m2, m3, Below.refl _ _⟩
        go_upto_region 13 with fail
        go_cut [10] from 14 (fun s9 wx => ∃ r : Nat, s9 = .pointer (some ⟨r, 0, none⟩) ∧ Hid (SZ5 wx r ns x1 x2 x3 x4) ∧ Hid (Below wr.heap.size wr wx))
        case first =>
          go_region_held3 (fun w' => w'.cell? ⟨g, 0, none⟩ = some (.string ns) ∧ w'.cell? ⟨w1.heap.size, 0, none⟩ = some (.int .i64 x1) ∧ w'.cell? ⟨w1.heap.size, 1, none⟩ = some (.int .i64 x2) ∧ w'.cell? ⟨w1.heap.size, 2, none⟩ = some (.int .i64 x3) ∧ w'.cell? ⟨w1.heap.size, 3, none⟩ = some (.int .i64 x4) ∧ Below wr.heap.size wr w') (first | (exact keepW5 KK.out (bel_drew (Below.refl _ _))) | (exact keepW5 KK.out ((bel_drew (Below.refl _ _)).alloc (Nat.le_refl _) _)) | (exact keepW5 KK.out (bel_drew ((Below.refl _ _).alloc (Nat.le_refl _) _))) | go_keep) (fail)
          all_goals
            rename_i held
            have S1 := Lib.hid held.2.2.2.2.2
            clear held
            go_wp2_with fail
            go_meet
            case rel => first | exact ⟨_, rfl, Lib.hid (SZ5.new _ _ _ _ _ _ _), S1⟩ | exact ⟨_, rfl, Lib.hid (SZ5.drew (SZ5.new _ _ _ _ _ _ _)), S1⟩
        case rest =>
          obtain ⟨r, rfl, CQ, S2⟩ := hcut
          have Z3 := Lib.hid (Z2.out.go S2.out)
          have HB3 := Lib.hid (HB2.out.trans (S2.out.mono HB2.out.size))
          obtain ⟨v0, v1, v2, v3, v4, _, _, _, _, _⟩ := CQ.out
          clear m0 m1 m2 m3 e0 KK
          go_wp2_with fail
          refine (V.out _ _ _ _ _).mono ?_
          rintro e w4 ⟨rfl, hb4⟩
          have Z4 := Lib.hid (Z3.out.go hb4)
          have C4 := Lib.hid (CQ.out.go hb4)
          have HB4 := Lib.hid (HB3.out.trans (hb4.mono HB3.out.size))
          clear hb4 v0 v1 v2 v3 v4
          obtain ⟨v0, v1, v2, v3, v4, _, _, _, _, _⟩ := C4.out
          obtain ⟨q0, q1, q2, q3, q4, f0, f1, f2, f3, f4⟩ := Z4.out

          have RG := Lib.hid (RF.out.trans (SV.out x1 x2 x3 x4))
          cases hG : G x1 x2 x3 x4 with
          | true =>
            have RE : Hid (R = .tuple #[.agg #[.string ns, .int .i64 x1, .int .i64 x2, .int .i64 x3, .int .i64 x4], .bool true]) := Lib.hid (by rw [RG.out, hG, if_pos rfl])
            clear hG RG
            go_wp2_with fail
            rw [RE.out]
            refine bodyPost_ret (v := .tuple #[.agg #[.string ns, .int .i64 x1, .int .i64 x2, .int .i64 x3, .int .i64 x4], .bool true]) (by first | (simp [results, Tryd.results9, go_sem]; done) | (simp [results, Tryd.results9, go_sem, *]; done)) rfl ⟨rfl, ?_⟩
            repeat (first | exact Below.refl _ _ | exact HB4.out | refine Below.setCell ?_ (by first | (simp; done) | omega | (simp; omega)) _ | refine Below.alloc ?_ (by first | (simp; done) | omega | (simp; omega)) _ | refine bel_drew ?_)
          | false =>
            have RE : Hid (R = .tuple #[.agg #[.string ⟨#[]⟩, .int .i64 0, .int .i64 0, .int .i64 0, .int .i64 0], .bool false]) := Lib.hid (by rw [RG.out, hG, if_neg (by simp)])
            clear hG RG
            go_wp2_with fail
            rw [RE.out]
            refine bodyPost_ret (v := .tuple #[.agg #[.string ⟨#[]⟩, .int .i64 0, .int .i64 0, .int .i64 0, .int .i64 0], .bool false]) (by first | (simp [results, Tryd.results9, go_sem]; done) | (simp [results, Tryd.results9, go_sem, *]; done)) rfl ⟨rfl, ?_⟩
            repeat (first | exact Below.refl _ _ | exact HB4.out | refine Below.setCell ?_ (by first | (simp; done) | omega | (simp; omega)) _ | refine Below.alloc ?_ (by first | (simp; done) | omega | (simp; omega)) _ | refine bel_drew ?_)
  · rw [rsV_len _ hl]
    have hl' : (((spl 32 s.data.toList).length : Int) == 5) = false := by simp; omega
    have hl2 : ¬ ((spl 32 s.data.toList).length : Int) = 5 := by omega
    clear PS
    have Z0 : Hid (SZ5 (w.alloc (.cells #[.string ⟨#[]⟩, .int .i64 0, .int .i64 0, .int .i64 0, .int .i64 0] 23)) w.heap.size ⟨#[]⟩ 0 0 0 0) := Lib.hid (SZ5.new _ _ _ _ _ _ _)
    have hb0 : Hid (Below w.heap.size w (w.alloc (.cells #[.string ⟨#[]⟩, .int .i64 0, .int .i64 0, .int .i64 0, .int .i64 0] 23))) := Lib.hid ((Below.refl _ _).alloc (Nat.le_refl _) _)
    go_enter Tryd.func9, Tryd.ntmps9
    go_wp2_with fail
    refine (split_any s 32 _ hs (LE.out.below hb0.out)).mono ?_
    rintro e w1 ⟨v, rfl, hown1, hb1⟩
    obtain ⟨g, cap, rfl⟩ := Go.Joins.ownsRow_form hown1 HP.out
    have hgl := (hown1.lt g rfl).2
    have Z1 := Lib.hid (Z0.out.go hb1)
    have HB1 := Lib.hid (hb0.out.trans (hb1.mono hb0.out.size))
    rw [bs_len] at hown1 ⊢
    clear hb1 hb0 Z0
    generalize (spl 32 s.data.toList).length = len at *
    have HO := Lib.hid hown1
    clear hown1
    obtain ⟨q0, q1, q2, q3, q4, f0, f1, f2, f3, f4⟩ := Z1.out
    go_wp2_with fail
    refine bodyPost_ret (v := .tuple #[.agg #[.string ⟨#[]⟩, .int .i64 0, .int .i64 0, .int .i64 0, .int .i64 0], .bool false]) (by first | (simp [results, Tryd.results9, go_sem]; done) | (simp [results, Tryd.results9, go_sem, *]; done)) rfl ⟨rfl, ?_⟩
    repeat (first | exact Below.refl _ _ | exact HB1.out | refine Below.setCell ?_ (by first | (simp; done) | omega | (simp; omega)) _ | refine Below.alloc ?_ (by first | (simp; done) | omega | (simp; omega)) _ | refine bel_drew ?_)

end Go.Proofs.YtfiabcmjcpjmiaaDoor
