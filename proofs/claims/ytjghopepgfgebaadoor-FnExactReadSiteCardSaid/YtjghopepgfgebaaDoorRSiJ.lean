/-
  Sites read from texts: the contract of ReadSite (package impl).
-/
import Derived.Test.YtjghopepgfgebaaDoorRSiS
import Derived.Test.YtjghopepgfgebaaDoorEachA
import Derived.Deep.RegionHeld3
namespace Go.Proofs.YtjghopepgfgebaaDoor
open Go.RowKit
set_option linter.unusedVariables false

theorem SZ3.drew {w : World} {g : Nat} {s : ByteArray} {a b : Int} (h : SZ3 w g s a b) : SZ3 w.drew g s a b := ⟨h.c0, h.c1, h.c2, h.f0, h.f1, h.f2⟩
theorem keepS3 {w W W' : World} {g h : Nat} {v u0 u1 : Value} (k : W.cell? ⟨g, 0, none⟩ = some v ∧ W.cell? ⟨h, 0, none⟩ = some u0 ∧ W.cell? ⟨h, 1, none⟩ = some u1 ∧ Below w.heap.size w W) (hb : Below W.heap.size W W') :
    W'.cell? ⟨g, 0, none⟩ = some v ∧ W'.cell? ⟨h, 0, none⟩ = some u0 ∧ W'.cell? ⟨h, 1, none⟩ = some u1 ∧ Below w.heap.size w W' := by
  obtain ⟨h0, h1, h2, hw⟩ := k
  obtain ⟨c, _⟩ := bcell hb
  exact ⟨(c _ _ (World.block_lt_of_cell? W ⟨g, 0, none⟩ h0)).trans h0, (c _ _ (World.block_lt_of_cell? W ⟨h, 0, none⟩ h1)).trans h1, (c _ _ (World.block_lt_of_cell? W ⟨h, 1, none⟩ h2)).trans h2, hw.trans (hb.mono hw.size)⟩
set_option maxRecDepth 100000 in
set_option maxHeartbeats 4000000 in
theorem implRSite_any (s : ByteArray) (hs : s.size ≤ 1048576) (w : World) (ht : TabOK w) (he : ErrOK w) (hlen : LenOK w) :
    Calls Tryd.prog 17 #[.string s] w fun e w' => e = .returned (siV s.data.toList) ∧ Below w.heap.size w w' := by
  have HP : Hid (0 < (bs (spl 32 s.data.toList)).length) := Lib.hid (by rw [bs_len]; exact List.length_pos_iff.2 (spl_ne 32 _))
  have PS := part_size s 32
  have TE := Lib.hid ht
  have EE := Lib.hid he
  have LE := Lib.hid hlen
  clear ht he hlen
  by_cases hl : (spl 32 s.data.toList).length = 3
  · obtain ⟨n, t1, t2, hx⟩ : ∃ n t1 t2, spl 32 s.data.toList = [n, t1, t2] := by
      generalize spl 32 s.data.toList = xs at hl
      match xs, hl with
      | [n, t1, t2], _ => exact ⟨n, t1, t2, rfl⟩
    have hns : (⟨n.toArray⟩ : ByteArray).size ≤ 1048576 := by
      have := PS 0 (by rw [hl]; omega)
      simp only [hx, List.getElem_cons_zero] at this
      omega
    have ht1 : (⟨t1.toArray⟩ : ByteArray).size ≤ 1048576 := by
      have := PS 1 (by rw [hl]; omega)
      simp only [hx, List.getElem_cons_zero, List.getElem_cons_succ] at this
      omega
    have ht2 : (⟨t2.toArray⟩ : ByteArray).size ≤ 1048576 := by
      have := PS 2 (by rw [hl]; omega)
      simp only [hx, List.getElem_cons_zero, List.getElem_cons_succ] at this
      omega
    have HT1 := Lib.hid ht1
    have HT2 := Lib.hid ht2
    rw [siV_at s.data.toList n t1 t2 hx]
    obtain ⟨y1, hy1⟩ : ∃ y, y = angC t1 := ⟨_, rfl⟩
    obtain ⟨y2, hy2⟩ : ∃ y, y = angC t2 := ⟨_, rfl⟩
    rw [← hy1, ← hy2]
    have Y : Hid ([t1, t2].map angE = [y1, y2]) := Lib.hid (by rw [hy1, hy2]; rfl)
    have V := Lib.hid (fun w => validSite_any ⟨n.toArray⟩ y1 y2 (by unfold maxLen; omega) w)
    have KO : Hid ([t1, t2].all okA = (okA t1 && okA t2)) := Lib.hid (by simp)
    have ea : (okA t1 && (okA t2 && siteB ⟨n.toArray⟩ y1 y2)) = ((okA t1 && okA t2) && siteB ⟨n.toArray⟩ y1 y2) := (Bool.and_assoc _ _ _).symm
    rw [ea, ← KO.out]
    generalize siteB ⟨n.toArray⟩ y1 y2 = b3 at *
    obtain ⟨ns, hns2⟩ : ∃ ns : ByteArray, ⟨n.toArray⟩ = ns := ⟨_, rfl⟩
    rw [hns2] at V ⊢
    obtain ⟨R, hR⟩ : ∃ R, R = (if ([t1, t2].all okA && b3) = true then Value.tuple #[.agg #[.string ns, .int .i64 y1, .int .i64 y2], .bool true] else .tuple #[.agg #[.string ⟨#[]⟩, .int .i64 0, .int .i64 0], .bool false]) := ⟨_, rfl⟩
    rw [← hR]
    have HR := Lib.hid hR
    clear hR
    have HN := Lib.hid hns2
    clear hns2 hns ht1 ht2 PS hl hy1 hy2 ea KO
    have Z0 : Hid (SZ3 (w.alloc (.cells #[.string ⟨#[]⟩, .int .i64 0, .int .i64 0] 38)) w.heap.size ⟨#[]⟩ 0 0) := Lib.hid (SZ3.new _ _ _ _ _)
    have hb0 : Hid (Below w.heap.size w (w.alloc (.cells #[.string ⟨#[]⟩, .int .i64 0, .int .i64 0] 38))) := Lib.hid ((Below.refl _ _).alloc (Nat.le_refl _) _)
    go_enter Tryd.func17, Tryd.ntmps17
    go_wp2_with fail
    refine (split_any s 32 _ hs (LE.out.below hb0.out)).mono ?_
    rintro e w1 ⟨v, rfl, hown1, hb1⟩
    obtain ⟨g, cap, rfl⟩ := Go.Joins.ownsRow_form hown1 HP.out
    have hgl := (hown1.lt g rfl).2
    have Z1 := Lib.hid (Z0.out.go hb1)
    have HB1 := Lib.hid (hb0.out.trans (hb1.mono hb0.out.size))
    rw [bs_len] at hown1 ⊢
    clear hb1 hb0 Z0
    simp only [hx, List.length_cons, List.length_nil] at hown1 ⊢
    obtain ⟨d0, d1, d2⟩ := words_3 hown1
    have hcap : 3 ≤ cap := by
      rcases hown1.2 with ⟨hv, _⟩ | ⟨g1, cap1, cur, hv, _, _, hc, _⟩
      · cases hv
      · injection hv with _ _ e3; omega
    rw [HN.out] at d0
    have EA := Lib.hid (eachA_any g 1 (cap - 1) [t1, t2] w1 (by simp) hgl (by
      intro j h
      have h2 : j < 2 := h
      rcases (by omega : j = 0 ∨ j = 1) with rfl | rfl
      · exact d1
      · exact d2) (by
      intro j h
      have h2 : j < 2 := h
      rcases (by omega : j = 0 ∨ j = 1) with rfl | rfl
      · exact HT1.out
      · exact HT2.out) (TE.out.below HB1.out) (EE.out.below HB1.out) (LE.out.below HB1.out))
    rw [Y.out] at EA
    have C0 := Lib.hid d0
    have cap1 : (1 : Int) ≤ (cap : Int) := by omega
    clear hown1 d0 d1 d2 hx Y
    generalize [t1, t2].all okA = ok at *
    have hlen2 : [t1, t2].length = 2 := rfl
    rw [hlen2] at EA
    clear hlen2
    go_wp2_with fail
    refine EA.out.mono ?_
    rintro e wr ⟨v2, rfl, hown2, hb2⟩
    have Z2 := Lib.hid (Z1.out.go hb2)
    have HB2 := Lib.hid (HB1.out.trans (hb2.mono HB1.out.size))
    cases ok with
    | false =>
      clear hown2 hb2
      obtain ⟨q0, q1, q2, f0, f1, f2⟩ := Z2.out
      go_wp2_with fail
      refine bodyPost_ret (v := .tuple #[.agg #[.string ⟨#[]⟩, .int .i64 0, .int .i64 0], .bool false]) (by first | (simp [results, Tryd.results17, go_sem]; done) | (simp [results, Tryd.results17, go_sem, q0, q1, q2]; done)) rfl ⟨by rw [HR.out, Bool.false_and, if_neg (by simp)], ?_⟩
      repeat (first | exact Below.refl _ _ | exact HB2.out | refine Below.setCell ?_ (by first | (simp; done) | omega | (simp; omega)) _ | refine Below.alloc ?_ (by first | (simp; done) | omega | (simp; omega)) _ | refine bel_drew ?_)
    | true =>
      have OW := hown2 rfl
      obtain ⟨rb, c3, hv3⟩ := Go.Joins.ownsRow_form OW (by simp)
      subst hv3
      have m0 : wr.cell? ⟨rb, 0, none⟩ = some (.int .i64 y1) := OW.cellAt 0 (by simp)
      have m1 : wr.cell? ⟨rb, 1, none⟩ = some (.int .i64 y2) := OW.cellAt 1 (by simp)
      have e0 : wr.cell? ⟨g, 0, none⟩ = some (.string ns) := (hb2.cell (p := ⟨g, 0, none⟩) hgl).trans C0.out
      have KK : Hid (wr.cell? ⟨g, 0, none⟩ = some (.string ns) ∧ wr.cell? ⟨rb, 0, none⟩ = some (.int .i64 y1) ∧ wr.cell? ⟨rb, 1, none⟩ = some (.int .i64 y2) ∧ Below wr.heap.size wr wr) := Lib.hid ⟨e0, m0, m1, Below.refl _ _⟩
      clear hown2 OW hb2
      go_upto_region 7 with fail
      go_cut [7] from 8 (fun s9 wx => ∃ r : Nat, s9 = .pointer (some ⟨r, 0, none⟩) ∧ Hid (SZ3 wx r ns y1 y2) ∧ Hid (Below wr.heap.size wr wx))
      case first =>
        go_region_held3 (fun w' => w'.cell? ⟨g, 0, none⟩ = some (.string ns) ∧ w'.cell? ⟨rb, 0, none⟩ = some (.int .i64 y1) ∧ w'.cell? ⟨rb, 1, none⟩ = some (.int .i64 y2) ∧ Below wr.heap.size wr w') (first | (exact keepS3 KK.out (bel_drew (Below.refl _ _))) | (exact keepS3 KK.out ((bel_drew (Below.refl _ _)).alloc (Nat.le_refl _) _)) | (exact keepS3 KK.out (bel_drew ((Below.refl _ _).alloc (Nat.le_refl _) _))) | go_keep) (fail)
        all_goals
          rename_i held
          have S1 := Lib.hid held.2.2.2
          clear held
          go_wp2_with fail
          go_meet
          case rel => first | exact ⟨_, rfl, Lib.hid (SZ3.new _ _ _ _ _), S1⟩ | exact ⟨_, rfl, Lib.hid (SZ3.drew (SZ3.new _ _ _ _ _)), S1⟩
      case rest =>
        obtain ⟨r, rfl, CQ, S2⟩ := hcut
        have Z3 := Lib.hid (Z2.out.go S2.out)
        have HB3 := Lib.hid (HB2.out.trans (S2.out.mono HB2.out.size))
        obtain ⟨v0, v1, v2, _, _, _⟩ := CQ.out
        clear m0 m1 e0 KK
        go_wp2_with fail
        refine (V.out _).mono ?_
        rintro e w4 ⟨rfl, hb4⟩
        have Z4 := Lib.hid (Z3.out.go hb4)
        have C4 := Lib.hid (CQ.out.go hb4)
        have HB4 := Lib.hid (HB3.out.trans (hb4.mono HB3.out.size))
        clear hb4 v0 v1 v2
        obtain ⟨v0, v1, v2, _, _, _⟩ := C4.out
        obtain ⟨q0, q1, q2, f0, f1, f2⟩ := Z4.out
        cases b3 with
        | true =>
          go_wp2_with fail
          refine bodyPost_ret (v := .tuple #[.agg #[.string ns, .int .i64 y1, .int .i64 y2], .bool true]) (by first | (simp [results, Tryd.results17, go_sem]; done) | (simp [results, Tryd.results17, go_sem, q0, q1, q2]; done)) rfl ⟨by rw [HR.out, Bool.true_and, if_pos rfl], ?_⟩
          repeat (first | exact Below.refl _ _ | exact HB4.out | refine Below.setCell ?_ (by first | (simp; done) | omega | (simp; omega)) _ | refine Below.alloc ?_ (by first | (simp; done) | omega | (simp; omega)) _ | refine bel_drew ?_)
        | false =>
          go_wp2_with fail
          refine bodyPost_ret (v := .tuple #[.agg #[.string ⟨#[]⟩, .int .i64 0, .int .i64 0], .bool false]) (by first | (simp [results, Tryd.results17, go_sem]; done) | (simp [results, Tryd.results17, go_sem, q0, q1, q2]; done)) rfl ⟨by rw [HR.out, Bool.true_and, if_neg (by simp)], ?_⟩
          repeat (first | exact Below.refl _ _ | exact HB4.out | refine Below.setCell ?_ (by first | (simp; done) | omega | (simp; omega)) _ | refine Below.alloc ?_ (by first | (simp; done) | omega | (simp; omega)) _ | refine bel_drew ?_)
  · rw [siV_len _ hl]
    have hl' : (((spl 32 s.data.toList).length : Int) == 3) = false := by simp; omega
    have hl2 : ¬ ((spl 32 s.data.toList).length : Int) = 3 := by omega
    clear PS
    have Z0 : Hid (SZ3 (w.alloc (.cells #[.string ⟨#[]⟩, .int .i64 0, .int .i64 0] 38)) w.heap.size ⟨#[]⟩ 0 0) := Lib.hid (SZ3.new _ _ _ _ _)
    have hb0 : Hid (Below w.heap.size w (w.alloc (.cells #[.string ⟨#[]⟩, .int .i64 0, .int .i64 0] 38))) := Lib.hid ((Below.refl _ _).alloc (Nat.le_refl _) _)
    go_enter Tryd.func17, Tryd.ntmps17
    go_wp2_with fail
    refine (split_any s 32 _ hs (LE.out.below hb0.out)).mono ?_
    rintro e w1 ⟨v, rfl, hown1, hb1⟩
    obtain ⟨g, cap, rfl⟩ := Go.Joins.ownsRow_form hown1 HP.out
    have hgl := (hown1.lt g rfl).2
    have Z1 := Lib.hid (Z0.out.go hb1)
    have HB1 := Lib.hid (hb0.out.trans (hb1.mono hb0.out.size))
    rw [bs_len] at hown1 ⊢
    clear hb1 hb0 Z0
    generalize (spl 32 s.data.toList).length = len at *
    have HO := Lib.hid hown1
    clear hown1
    obtain ⟨q0, q1, q2, f0, f1, f2⟩ := Z1.out
    go_wp2_with fail
    refine bodyPost_ret (v := .tuple #[.agg #[.string ⟨#[]⟩, .int .i64 0, .int .i64 0], .bool false]) (by first | (simp [results, Tryd.results17, go_sem]; done) | (simp [results, Tryd.results17, go_sem, q0, q1, q2]; done)) rfl ⟨rfl, ?_⟩
    repeat (first | exact Below.refl _ _ | exact HB1.out | refine Below.setCell ?_ (by first | (simp; done) | omega | (simp; omega)) _ | refine Below.alloc ?_ (by first | (simp; done) | omega | (simp; omega)) _ | refine bel_drew ?_)
end Go.Proofs.YtjghopepgfgebaaDoor
