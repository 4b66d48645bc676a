/-
  Stars read from texts: the contract of ReadStar (package impl).
-/
import Derived.Test.YtjghopepgfgebaaDoorRSt
import Derived.Test.YtjghopepgfgebaaDoorEachD
namespace Go.Proofs.YtjghopepgfgebaaDoor
open Go.RowKit
set_option linter.unusedVariables false

set_option maxRecDepth 100000 in
set_option maxHeartbeats 4000000 in
theorem implRS_any (s : ByteArray) (hs : s.size ≤ 1048576) (w : World) (ht : TabOK w) (he : ErrOK w) (hlen : LenOK w) :
    Calls Tryd.prog 14 #[.string s] w fun e w' => e = .returned (rsV s.data.toList) ∧ Below w.heap.size w w' := by
  have HP : Hid (0 < (bs (spl 32 s.data.toList)).length) := Lib.hid (by rw [bs_len]; exact List.length_pos_iff.2 (spl_ne 32 _))
  have PS := part_size s 32
  have TE := Lib.hid ht
  have EE := Lib.hid he
  have LE := Lib.hid hlen
  clear ht he hlen
  by_cases hl : (spl 32 s.data.toList).length = 5
  · obtain ⟨n, t1, t2, t3, t4, hx⟩ : ∃ n t1 t2 t3 t4, spl 32 s.data.toList = [n, t1, t2, t3, t4] := by
      generalize spl 32 s.data.toList = xs at hl
      match xs, hl with
      | [n, t1, t2, t3, t4], _ => exact ⟨n, t1, t2, t3, t4, rfl⟩
    have WS : Hid (∀ m, m < 5 → (⟨(wdT n t1 t2 t3 t4 m).toArray⟩ : ByteArray).size ≤ 1048576) := Lib.hid (by
      intro m hm
      have h := PS m (by omega)
      rw [wd_get _ n t1 t2 t3 t4 hx m (by omega)] at h
      omega)
    have WG : Hid (∀ m, (h : m < (spl 32 s.data.toList).length) → (spl 32 s.data.toList)[m] = wdT n t1 t2 t3 t4 m) := Lib.hid (wd_get _ n t1 t2 t3 t4 hx)
    have hns : (⟨n.toArray⟩ : ByteArray).size ≤ 1048576 := WS.out 0 (by omega)
    have RB := Lib.hid (rsV_bad s.data.toList n t1 t2 t3 t4 hx)
    have RA := Lib.hid (rsV_at s.data.toList n t1 t2 t3 t4 hx)
    have ZN := Lib.hid (zsT_next n t1 t2 t3 t4)
    have ZL := Lib.hid (zsT_len t1 t2 t3 t4)
    have Z5 : Hid (zsT t1 t2 t3 t4 5 = [numV t1, numV t2, numV t3, numV t4]) := Lib.hid rfl
    have W0 : Hid (wdT n t1 t2 t3 t4 0 = n ∧ wdT n t1 t2 t3 t4 1 = t1 ∧ wdT n t1 t2 t3 t4 2 = t2 ∧ wdT n t1 t2 t3 t4 3 = t3 ∧ wdT n t1 t2 t3 t4 4 = t4) := Lib.hid ⟨rfl, rfl, rfl, rfl, rfl⟩
    have RD : Hid (∀ m, m < 5 → ∀ w, TabOK w → ErrOK w → Calls Tryd.prog 32 #[.string ⟨(wdT n t1 t2 t3 t4 m).toArray⟩] w fun e w' => e = .returned (.tuple #[.int .i64 (numV (wdT n t1 t2 t3 t4 m)), .bool (numOk (wdT n t1 t2 t3 t4 m))]) ∧ Below w.heap.size w w') := Lib.hid (by
      intro m hm w ht he
      have h := implRead_any ⟨(wdT n t1 t2 t3 t4 m).toArray⟩ w (WS.out m hm) ht he
      rw [data_ofS] at h
      exact h)
    have V := Lib.hid (fun w a b c d => validStar_any ⟨n.toArray⟩ a b c d (by unfold maxLen; omega) w)
    have SV : Hid (∀ a b c d, stV n a b c d = if starB ⟨n.toArray⟩ a b c d = true then .tuple #[.agg #[.string ⟨n.toArray⟩, .int .i64 a, .int .i64 b, .int .i64 c, .int .i64 d], .bool true] else .tuple #[.agg #[.string ⟨#[]⟩, .int .i64 0, .int .i64 0, .int .i64 0, .int .i64 0], .bool false]) := Lib.hid (fun _ _ _ _ => rfl)
    generalize rsV s.data.toList = R at *
    generalize wdT n t1 t2 t3 t4 = W at *
    generalize zsT t1 t2 t3 t4 = Z at *
    generalize stV n = S at *
    generalize starB ⟨n.toArray⟩ = G at *
    generalize hN0 : (⟨n.toArray⟩ : ByteArray) = ns at *
    have HN0 := Lib.hid hN0
    clear hN0 hns PS
    obtain ⟨x1, hx1⟩ : ∃ x1, x1 = numV t1 := ⟨_, rfl⟩
    rw [← hx1] at RA
    have X1 : Hid (numV t1 = x1) := Lib.hid hx1.symm
    clear hx1
    obtain ⟨x2, hx2⟩ : ∃ x2, x2 = numV t2 := ⟨_, rfl⟩
    rw [← hx2] at RA
    have X2 : Hid (numV t2 = x2) := Lib.hid hx2.symm
    clear hx2
    obtain ⟨x3, hx3⟩ : ∃ x3, x3 = numV t3 := ⟨_, rfl⟩
    rw [← hx3] at RA
    have X3 : Hid (numV t3 = x3) := Lib.hid hx3.symm
    clear hx3
    obtain ⟨x4, hx4⟩ : ∃ x4, x4 = numV t4 := ⟨_, rfl⟩
    rw [← hx4] at RA
    have X4 : Hid (numV t4 = x4) := Lib.hid hx4.symm
    clear hx4
    clear hx
    have Z0 : Hid (SZ5 (w.alloc (.cells #[.string ⟨#[]⟩, .int .i64 0, .int .i64 0, .int .i64 0, .int .i64 0] 32)) w.heap.size ⟨#[]⟩ 0 0 0 0) := Lib.hid (SZ5.new _ _ _ _ _ _ _)
    have hb0 : Hid (Below w.heap.size w (w.alloc (.cells #[.string ⟨#[]⟩, .int .i64 0, .int .i64 0, .int .i64 0, .int .i64 0] 32))) := Lib.hid ((Below.refl _ _).alloc (Nat.le_refl _) _)
    go_enter Tryd.func14, Tryd.ntmps14
    go_wp2_with fail
    refine (split_any s 32 _ hs (LE.out.below hb0.out)).mono ?_
    rintro e w1 ⟨v, rfl, hown1, hb1⟩
    obtain ⟨g, cap, rfl⟩ := Go.Joins.ownsRow_form hown1 HP.out
    have hgl := (hown1.lt g rfl).2
    have Z1 := Lib.hid (Z0.out.go hb1)
    have HB1 := Lib.hid (hb0.out.trans (hb1.mono hb0.out.size))
    rw [bs_len] at hown1 ⊢
    clear hb1 hb0 Z0
    rw [hl] at hown1 ⊢
    have CE : Hid (∀ m, m < 5 → w1.cell? ⟨g, m, none⟩ = some (.string ⟨(W m).toArray⟩)) := Lib.hid (by
      intro m hm
      rw [hown1.cellAt m (by omega), List.getElem?_map, bs_get _ m (by omega), WG.out m (by omega)]
      rfl)
    have hcap : 5 ≤ cap := by
      rcases hown1.2 with ⟨hv, _⟩ | ⟨g1, cap1, cur, hv, _, _, hc, _⟩
      · cases hv
      · injection hv with _ _ e3; omega
    clear hown1 hl
    have EA := Lib.hid (eachD_any g 1 (cap - 1) [t1, t2, t3, t4] w1 (by simp) hgl (by
      intro j h
      have h4 : j < 4 := h
      rw [Nat.add_comm 1 j]
      have := CE.out (j + 1) (by omega)
      rw [this]
      rcases (by omega : j = 0 ∨ j = 1 ∨ j = 2 ∨ j = 3) with rfl | rfl | rfl | rfl
      · rw [W0.out.2.1]; rfl
      · rw [W0.out.2.2.1]; rfl
      · rw [W0.out.2.2.2.1]; rfl
      · rw [W0.out.2.2.2.2]; rfl) (by
      intro j h
      have h4 : j < 4 := h
      have := WS.out (j + 1) (by omega)
      rcases (by omega : j = 0 ∨ j = 1 ∨ j = 2 ∨ j = 3) with rfl | rfl | rfl | rfl
      · rw [W0.out.2.1] at this; exact this
      · rw [W0.out.2.2.1] at this; exact this
      · rw [W0.out.2.2.2.1] at this; exact this
      · rw [W0.out.2.2.2.2] at this; exact this) (TE.out.below HB1.out) (EE.out.below HB1.out) (LE.out.below HB1.out))
    have e4 : [t1, t2, t3, t4].map numV = [x1, x2, x3, x4] := by rw [← X1.out, ← X2.out, ← X3.out, ← X4.out]; rfl
    rw [e4] at EA
    have FB : Hid ([t1, t2, t3, t4].all numOk = false → R = .tuple #[.agg #[.string ⟨#[]⟩, .int .i64 0, .int .i64 0, .int .i64 0, .int .i64 0], .bool false]) := Lib.hid (by
      intro h
      simp only [List.all_cons, List.all_nil, Bool.and_true, Bool.and_eq_false_iff] at h
      rcases h with h | h | h | h
      · exact RB.out 1 (by omega) (by omega) (by rw [W0.out.2.1]; exact h)
      · exact RB.out 2 (by omega) (by omega) (by rw [W0.out.2.2.1]; exact h)
      · exact RB.out 3 (by omega) (by omega) (by rw [W0.out.2.2.2.1]; exact h)
      · exact RB.out 4 (by omega) (by omega) (by rw [W0.out.2.2.2.2]; exact h))
    have FA : Hid ([t1, t2, t3, t4].all numOk = true → R = S x1 x2 x3 x4) := Lib.hid (by
      intro h
      simp only [List.all_cons, List.all_nil, Bool.and_true, Bool.and_eq_true] at h
      refine RA.out (fun j a b => ?_)
      rcases (by omega : j = 1 ∨ j = 2 ∨ j = 3 ∨ j = 4) with rfl | rfl | rfl | rfl
      · rw [W0.out.2.1]; exact h.1
      · rw [W0.out.2.2.1]; exact h.2.1
      · rw [W0.out.2.2.2.1]; exact h.2.2.1
      · rw [W0.out.2.2.2.2]; exact h.2.2.2)
    have C0 : Hid (w1.cell? ⟨g, 0, none⟩ = some (.string ns)) := Lib.hid (by
      rw [← HN0.out, ← W0.out.1]
      exact CE.out 0 (by omega))
    have cap1 : (1 : Int) ≤ (cap : Int) := by omega
    clear e4 RA RB WG CE
    generalize [t1, t2, t3, t4].all numOk = ok at *
    have hlen4 : [t1, t2, t3, t4].length = 4 := rfl
    rw [hlen4] at EA
    clear hlen4
    go_wp2_with fail
    refine EA.out.mono ?_
    rintro e wr ⟨v2, rfl, hown2, hb2⟩
    have Z2 := Lib.hid (Z1.out.go hb2)
    have HB2 := Lib.hid (HB1.out.trans (hb2.mono HB1.out.size))
    cases ok with
    | false =>
      have RR := Lib.hid (FB.out rfl)
      clear hown2 hb2
      obtain ⟨q0, q1, q2, q3, q4, f0, f1, f2, f3, f4⟩ := Z2.out
      go_wp2_with fail
      rw [RR.out]
      refine bodyPost_ret (v := .tuple #[.agg #[.string ⟨#[]⟩, .int .i64 0, .int .i64 0, .int .i64 0, .int .i64 0], .bool false]) (by first | (simp [results, Tryd.results14, go_sem]; done) | (simp [results, Tryd.results14, go_sem, q0, q1, q2, q3, q4]; done)) rfl ⟨rfl, ?_⟩
      repeat (first | exact Below.refl _ _ | exact HB2.out | refine Below.setCell ?_ (by first | (simp; done) | omega | (simp; omega)) _ | refine Below.alloc ?_ (by first | (simp; done) | omega | (simp; omega)) _ | refine bel_drew ?_)
    | true =>
      have RF := Lib.hid (FA.out rfl)
      have OW := hown2 rfl
      obtain ⟨rb, c3, hv3⟩ := Go.Joins.ownsRow_form OW (by simp)
      subst hv3
      have m0 : wr.cell? ⟨rb, 0, none⟩ = some (.int .i64 x1) := OW.cellAt 0 (by simp)
      have m1 : wr.cell? ⟨rb, 1, none⟩ = some (.int .i64 x2) := OW.cellAt 1 (by simp)
      have m2 : wr.cell? ⟨rb, 2, none⟩ = some (.int .i64 x3) := OW.cellAt 2 (by simp)
      have m3 : wr.cell? ⟨rb, 3, none⟩ = some (.int .i64 x4) := OW.cellAt 3 (by simp)
      have e0 : wr.cell? ⟨g, 0, none⟩ = some (.string ns) := (hb2.cell (p := ⟨g, 0, none⟩) hgl).trans C0.out
      have KK : Hid (wr.cell? ⟨g, 0, none⟩ = some (.string ns) ∧ wr.cell? ⟨rb, 0, none⟩ = some (.int .i64 x1) ∧ wr.cell? ⟨rb, 1, none⟩ = some (.int .i64 x2) ∧ wr.cell? ⟨rb, 2, none⟩ = some (.int .i64 x3) ∧ wr.cell? ⟨rb, 3, none⟩ = some (.int .i64 x4) ∧ Below wr.heap.size wr wr) := Lib.hid ⟨e0, m0, m1, m2, m3, Below.refl _ _⟩
      clear hown2 OW hb2
      go_upto_region 7 with fail
      go_cut [7] from 8 (fun s9 wx => ∃ r : Nat, s9 = .pointer (some ⟨r, 0, none⟩) ∧ Hid (SZ5 wx r ns x1 x2 x3 x4) ∧ Hid (Below wr.heap.size wr wx))
      case first =>
        go_region_held3 (fun w' => w'.cell? ⟨g, 0, none⟩ = some (.string ns) ∧ w'.cell? ⟨rb, 0, none⟩ = some (.int .i64 x1) ∧ w'.cell? ⟨rb, 1, none⟩ = some (.int .i64 x2) ∧ w'.cell? ⟨rb, 2, none⟩ = some (.int .i64 x3) ∧ w'.cell? ⟨rb, 3, none⟩ = some (.int .i64 x4) ∧ Below wr.heap.size wr w') (first | (exact keepW5 KK.out (bel_drew (Below.refl _ _))) | (exact keepW5 KK.out ((bel_drew (Below.refl _ _)).alloc (Nat.le_refl _) _)) | (exact keepW5 KK.out (bel_drew ((Below.refl _ _).alloc (Nat.le_refl _) _))) | go_keep) (fail)
        all_goals
          rename_i held
          have S1 := Lib.hid held.2.2.2.2.2
          clear held
          go_wp2_with fail
          go_meet
          case rel => first | exact ⟨_, rfl, Lib.hid (SZ5.new _ _ _ _ _ _ _), S1⟩ | exact ⟨_, rfl, Lib.hid (SZ5.drew (SZ5.new _ _ _ _ _ _ _)), S1⟩
      case rest =>
        obtain ⟨r, rfl, CQ, S2⟩ := hcut
        have Z3 := Lib.hid (Z2.out.go S2.out)
        have HB3 := Lib.hid (HB2.out.trans (S2.out.mono HB2.out.size))
        obtain ⟨v0, v1, v2, v3, v4, _, _, _, _, _⟩ := CQ.out
        clear m0 m1 m2 m3 e0 KK
        go_wp2_with fail
        refine (V.out _ _ _ _ _).mono ?_
        rintro e w4 ⟨rfl, hb4⟩
        have Z4 := Lib.hid (Z3.out.go hb4)
        have C4 := Lib.hid (CQ.out.go hb4)
        have HB4 := Lib.hid (HB3.out.trans (hb4.mono HB3.out.size))
        clear hb4 v0 v1 v2 v3 v4
        obtain ⟨v0, v1, v2, v3, v4, _, _, _, _, _⟩ := C4.out
        obtain ⟨q0, q1, q2, q3, q4, f0, f1, f2, f3, f4⟩ := Z4.out

        have RG := Lib.hid (RF.out.trans (SV.out x1 x2 x3 x4))
        cases hG : G x1 x2 x3 x4 with
        | true =>
          have RE : Hid (R = .tuple #[.agg #[.string ns, .int .i64 x1, .int .i64 x2, .int .i64 x3, .int .i64 x4], .bool true]) := Lib.hid (by rw [RG.out, hG, if_pos rfl])
          clear hG RG
          go_wp2_with fail
          rw [RE.out]
          refine bodyPost_ret (v := .tuple #[.agg #[.string ns, .int .i64 x1, .int .i64 x2, .int .i64 x3, .int .i64 x4], .bool true]) (by first | (simp [results, Tryd.results14, go_sem]; done) | (simp [results, Tryd.results14, go_sem, *]; done)) rfl ⟨rfl, ?_⟩
          repeat (first | exact Below.refl _ _ | exact HB4.out | refine Below.setCell ?_ (by first | (simp; done) | omega | (simp; omega)) _ | refine Below.alloc ?_ (by first | (simp; done) | omega | (simp; omega)) _ | refine bel_drew ?_)
        | false =>
          have RE : Hid (R = .tuple #[.agg #[.string ⟨#[]⟩, .int .i64 0, .int .i64 0, .int .i64 0, .int .i64 0], .bool false]) := Lib.hid (by rw [RG.out, hG, if_neg (by simp)])
          clear hG RG
          go_wp2_with fail
          rw [RE.out]
          refine bodyPost_ret (v := .tuple #[.agg #[.string ⟨#[]⟩, .int .i64 0, .int .i64 0, .int .i64 0, .int .i64 0], .bool false]) (by first | (simp [results, Tryd.results14, go_sem]; done) | (simp [results, Tryd.results14, go_sem, *]; done)) rfl ⟨rfl, ?_⟩
          repeat (first | exact Below.refl _ _ | exact HB4.out | refine Below.setCell ?_ (by first | (simp; done) | omega | (simp; omega)) _ | refine Below.alloc ?_ (by first | (simp; done) | omega | (simp; omega)) _ | refine bel_drew ?_)
  · rw [rsV_len _ hl]
    have hl' : (((spl 32 s.data.toList).length : Int) == 5) = false := by simp; omega
    have hl2 : ¬ ((spl 32 s.data.toList).length : Int) = 5 := by omega
    clear PS
    have Z0 : Hid (SZ5 (w.alloc (.cells #[.string ⟨#[]⟩, .int .i64 0, .int .i64 0, .int .i64 0, .int .i64 0] 32)) w.heap.size ⟨#[]⟩ 0 0 0 0) := Lib.hid (SZ5.new _ _ _ _ _ _ _)
    have hb0 : Hid (Below w.heap.size w (w.alloc (.cells #[.string ⟨#[]⟩, .int .i64 0, .int .i64 0, .int .i64 0, .int .i64 0] 32))) := Lib.hid ((Below.refl _ _).alloc (Nat.le_refl _) _)
    go_enter Tryd.func14, Tryd.ntmps14
    go_wp2_with fail
    refine (split_any s 32 _ hs (LE.out.below hb0.out)).mono ?_
    rintro e w1 ⟨v, rfl, hown1, hb1⟩
    obtain ⟨g, cap, rfl⟩ := Go.Joins.ownsRow_form hown1 HP.out
    have hgl := (hown1.lt g rfl).2
    have Z1 := Lib.hid (Z0.out.go hb1)
    have HB1 := Lib.hid (hb0.out.trans (hb1.mono hb0.out.size))
    rw [bs_len] at hown1 ⊢
    clear hb1 hb0 Z0
    generalize (spl 32 s.data.toList).length = len at *
    have HO := Lib.hid hown1
    clear hown1
    obtain ⟨q0, q1, q2, q3, q4, f0, f1, f2, f3, f4⟩ := Z1.out
    go_wp2_with fail
    refine bodyPost_ret (v := .tuple #[.agg #[.string ⟨#[]⟩, .int .i64 0, .int .i64 0, .int .i64 0, .int .i64 0], .bool false]) (by first | (simp [results, Tryd.results14, go_sem]; done) | (simp [results, Tryd.results14, go_sem, *]; done)) rfl ⟨rfl, ?_⟩
    repeat (first | exact Below.refl _ _ | exact HB1.out | refine Below.setCell ?_ (by first | (simp; done) | omega | (simp; omega)) _ | refine Below.alloc ?_ (by first | (simp; done) | omega | (simp; omega)) _ | refine bel_drew ?_)

end Go.Proofs.YtjghopepgfgebaaDoor
