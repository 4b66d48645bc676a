/-
  What a projector gives at a direction: the contracts of weightAt and RawWeight (package impl).
-/
import Derived.Test.YtlklcpnnaolbeaaDoorProj2
import Derived.Test.YtlklcpnnaolbeaaDoorProjV
import Derived.Test.YtlklcpnnaolbeaaDoorUpB
import Derived.Test.YtlklcpnnaolbeaaDoorDistD
namespace Go.Proofs.YtlklcpnnaolbeaaDoor
open Go.RowKit
set_option linter.unusedVariables false

theorem nearQ_odd (n : Int) : nearQ (-n) 1000000 = -nearQ n 1000000 := by
  rcases (show n < 0 ∨ n = 0 ∨ 0 < n by omega) with c | c | c
  · rw [nearQ_np n 1000000 c (by omega), nearQ_pp (-n) 1000000 (by omega) (by omega)]; omega
  · subst c; rw [show (-(0 : Int)) = 0 from rfl, nearQ_pp 0 1000000 (by omega) (by omega)]; omega
  · rw [nearQ_pp n 1000000 (by omega) (by omega), nearQ_np (-n) 1000000 (by omega) (by omega)]; omega
theorem crI_swap (y z y' z' : Int) : crI y' z z' y = -crI y z' z y' := by
  unfold crI
  rw [← nearQ_odd]
  congr 1
  rw [Int.mul_comm y' z, Int.mul_comm z' y]
  omega
theorem sepX_swap (x y z x' y' z' : Int) : sepX x' y' z' x y z = sepX x y z x' y' z' := by
  have e1 : crL x' y' z' x y z = crL x y z x' y' z' := by
    unfold crL len3 sq3
    rw [crI_swap y z y' z', crI_swap z x z' x', crI_swap x y x' y']
    simp only [Int.neg_mul_neg]
  have e2 : dotI x' y' z' x y z = dotI x y z x' y' z' := by
    unfold dotI
    rw [Int.mul_comm x' x, Int.mul_comm y' y, Int.mul_comm z' z]
  unfold sepX
  rw [e1, e2]
theorem sep9_swap (a h p q : Int) : sep9 p q a h = sep9 a h p q := sepX_swap _ _ _ _ _ _


set_option maxRecDepth 100000 in
set_option maxHeartbeats 4000000 in
theorem weightAt_any (s : ByteArray) (a b c d u v : Int) (hg : starB s a b c d = true) (u0 : 0 ≤ u) (u1 : u ≤ 359999) (v0 : -90000 ≤ v) (v1 : v ≤ 90000) (w : World) (hs : SinesOK w) :
    Calls Tryd.prog 41 #[.agg #[.string s, .int .i64 a, .int .i64 b, .int .i64 c, .int .i64 d], .agg #[.int .i64 u, .int .i64 v]] w fun e w' => e = .returned (.int .i64 (rawN ⟨s, a, b, c, d⟩ u v)) ∧ Below w.heap.size w w' := by
  have hgd := starB_bd hg
  unfold rawN
  simp only
  have sb := sep9_bd u v a b
  have DD := Lib.hid (fun w hs => distDD_any u v a b (by unfold fits; omega) (by unfold fits; omega) v0 v1 (by omega) (by omega) w hs)
  unfold sightB at DD
  rw [← sep9_swap u v a b] at DD sb
  have AX := Lib.hid (fun w => axis_any s a b c d w)
  clear hg u0 u1 v0 v1
  generalize sep9 a b u v = n at *
  unfold rawD
  have e1 : IntKind.i64.wrap (c - n) = c - n := IntWalk.i64_in _ (by omega)
  have e2 : IntKind.i64.wrap (1000 * (c - n)) = 1000 * (c - n) := IntWalk.i64_in _ (by omega)
  obtain ⟨W0, hW0⟩ : ∃ W0, W0 = ((w.alloc (.cells #[.string s, .int .i64 a, .int .i64 b, .int .i64 c, .int .i64 d] 41)).alloc (.cells #[.int .i64 u, .int .i64 v] 54)) := ⟨_, rfl⟩
  have K0 : Hid (W0.cell? ⟨w.heap.size, 0, none⟩ = some (.string s) ∧ W0.cell? ⟨w.heap.size, 1, none⟩ = some (.int .i64 a) ∧ W0.cell? ⟨w.heap.size, 2, none⟩ = some (.int .i64 b) ∧ W0.cell? ⟨w.heap.size, 3, none⟩ = some (.int .i64 c) ∧ W0.cell? ⟨w.heap.size, 4, none⟩ = some (.int .i64 d) ∧ W0.cell? ⟨w.heap.size + 1, 0, none⟩ = some (.int .i64 u) ∧ W0.cell? ⟨w.heap.size + 1, 1, none⟩ = some (.int .i64 v) ∧ Below w.heap.size w W0) := Lib.hid (by rw [hW0]; exact ⟨by rw [World.cell?_alloc_lt _ _ _ (by first | (simp; done) | (simp; omega))]; first | (simp; done) | (rw [World.cell?_alloc_at _ _ _ _ (by first | (simp; done) | (simp; omega))]; rfl), by rw [World.cell?_alloc_lt _ _ _ (by first | (simp; done) | (simp; omega))]; first | (simp; done) | (rw [World.cell?_alloc_at _ _ _ _ (by first | (simp; done) | (simp; omega))]; rfl), by rw [World.cell?_alloc_lt _ _ _ (by first | (simp; done) | (simp; omega))]; first | (simp; done) | (rw [World.cell?_alloc_at _ _ _ _ (by first | (simp; done) | (simp; omega))]; rfl), by rw [World.cell?_alloc_lt _ _ _ (by first | (simp; done) | (simp; omega))]; first | (simp; done) | (rw [World.cell?_alloc_at _ _ _ _ (by first | (simp; done) | (simp; omega))]; rfl), by rw [World.cell?_alloc_lt _ _ _ (by first | (simp; done) | (simp; omega))]; first | (simp; done) | (rw [World.cell?_alloc_at _ _ _ _ (by first | (simp; done) | (simp; omega))]; rfl), by first | (simp; done) | (rw [World.cell?_alloc_at _ _ _ _ (by first | (simp; done) | (simp; omega))]; rfl), by first | (simp; done) | (rw [World.cell?_alloc_at _ _ _ _ (by first | (simp; done) | (simp; omega))]; rfl), by repeat (first | exact Below.refl _ _ | refine Below.alloc ?_ (by first | (simp; done) | (simp; omega)) _)⟩)
  have HW := Lib.hid hW0
  clear hW0
  have E0 := Lib.hid (hs.below K0.out.2.2.2.2.2.2.2)
  clear hs
  by_cases hd : c < n
  · rw [if_pos hd]
    clear e1 e2
    go_enter Tryd.func41, Tryd.ntmps41
    obtain ⟨k0, k1, k2, k3, k4, k5, k6, k7⟩ := K0.out
    go_wp2_with fail
    rw [← HW.out]
    clear HW
    go_region_held3 (fun w' => w'.cell? ⟨w.heap.size, 0, none⟩ = some (.string s) ∧ w'.cell? ⟨w.heap.size, 1, none⟩ = some (.int .i64 a) ∧ w'.cell? ⟨w.heap.size, 2, none⟩ = some (.int .i64 b) ∧ w'.cell? ⟨w.heap.size, 3, none⟩ = some (.int .i64 c) ∧ w'.cell? ⟨w.heap.size, 4, none⟩ = some (.int .i64 d) ∧ w'.cell? ⟨w.heap.size + 1, 0, none⟩ = some (.int .i64 u) ∧ w'.cell? ⟨w.heap.size + 1, 1, none⟩ = some (.int .i64 v) ∧ Below w.heap.size w w') (first | (exact keepW7 K0.out (bel_drew (Below.refl _ _))) | (exact keepW7 K0.out y2) | (exact keepW7 K0.out y1) | go_keep) ((first
      | (go_at_call 71; (with_reducible refine (AX.out _).mono ?_); rintro e x1 ⟨rfl, hx1⟩; have y1 := undrewG hx1)
      | (go_at_call 34; (with_reducible refine (DD.out _ (E0.out.below y1)).mono ?_); rintro e x2 ⟨rfl, hx2⟩; have y2 := y1.trans (hx2.mono y1.size))))
    all_goals
      rename_i held
      obtain ⟨m0, m1, m2, m3, m4, m5, m6, m7⟩ := held
      have HB := Lib.hid m7
      clear m7 m0 m1 m2 m4 m5 m6
      go_wp2_with fail
      go_ret
      exact ⟨rfl, HB.out⟩
  · rw [if_neg hd]
    have q0 : (1000 * (c - n)).tdiv c = 1000 * (c - n) / c := Int.tdiv_eq_ediv_of_nonneg (by omega)
    have qb : 0 ≤ 1000 * (c - n) / c := Int.ediv_nonneg (by omega) (by omega)
    have qc : 1000 * (c - n) / c ≤ 1000 := Int.ediv_le_of_le_mul (by omega) (by omega)
    have e3 : IntKind.i64.wrap (1000 * (c - n) / c) = 1000 * (c - n) / c := IntWalk.i64_in _ (by omega)
    have e4 : IntKind.i64.wrap (1000 * (c - n) / c + 1) = 1000 * (c - n) / c + 1 := IntWalk.i64_in _ (by omega)
    have f1 : wrap64 (c - n) = c - n := IntWalk.wrap64_in _ (by omega)
    have f2 : wrap64 (1000 * (c - n)) = 1000 * (c - n) := IntWalk.wrap64_in _ (by omega)
    have f3 : wrap64 (1000 * (c - n) / c) = 1000 * (c - n) / c := IntWalk.wrap64_in _ (by omega)
    have f4 : wrap64 (1000 * (c - n) / c + 1) = 1000 * (c - n) / c + 1 := IntWalk.wrap64_in _ (by omega)
    have cz : ¬ c = 0 := by omega
    clear qb qc
    go_enter Tryd.func41, Tryd.ntmps41
    obtain ⟨k0, k1, k2, k3, k4, k5, k6, k7⟩ := K0.out
    go_wp2_with fail
    rw [← HW.out]
    clear HW
    go_region_held3 (fun w' => w'.cell? ⟨w.heap.size, 0, none⟩ = some (.string s) ∧ w'.cell? ⟨w.heap.size, 1, none⟩ = some (.int .i64 a) ∧ w'.cell? ⟨w.heap.size, 2, none⟩ = some (.int .i64 b) ∧ w'.cell? ⟨w.heap.size, 3, none⟩ = some (.int .i64 c) ∧ w'.cell? ⟨w.heap.size, 4, none⟩ = some (.int .i64 d) ∧ w'.cell? ⟨w.heap.size + 1, 0, none⟩ = some (.int .i64 u) ∧ w'.cell? ⟨w.heap.size + 1, 1, none⟩ = some (.int .i64 v) ∧ Below w.heap.size w w') (first | (exact keepW7 K0.out (bel_drew (Below.refl _ _))) | (exact keepW7 K0.out y2) | (exact keepW7 K0.out y1) | go_keep) ((first
      | (go_at_call 71; (with_reducible refine (AX.out _).mono ?_); rintro e x1 ⟨rfl, hx1⟩; have y1 := undrewG hx1)
      | (go_at_call 34; (with_reducible refine (DD.out _ (E0.out.below y1)).mono ?_); rintro e x2 ⟨rfl, hx2⟩; have y2 := y1.trans (hx2.mono y1.size))))
    all_goals
      rename_i held
      obtain ⟨m0, m1, m2, m3, m4, m5, m6, m7⟩ := held
      have HB := Lib.hid m7
      clear m7 m0 m1 m2 m4 m5 m6
      go_wp2_with fail
      go_ret
      exact ⟨by simp [e1, e2, e3, e4, f1, f2, f3, f4, q0], HB.out⟩

/-- What RawWeight returns. -/
def rawV10 (s : ByteArray) (a b c d u v : Int) : Value := if starB s a b c d = true then (if spotB u v = true then .tuple #[.int .i64 (rawN ⟨s, a, b, c, d⟩ u v), .int .i64 0] else .tuple #[.int .i64 0, .int .i64 2]) else .tuple #[.int .i64 0, .int .i64 1]
theorem rawV_10 (s : ByteArray) (a b c d u v : Int) : rawV ⟨s, a, b, c, d⟩ u v = rawV10 s a b c d u v := rfl
theorem rawV10_form (s : ByteArray) (a b c d u v : Int) : ∃ p q : Int, rawV10 s a b c d u v = .tuple #[.int .i64 p, .int .i64 q] := by
  unfold rawV10
  split
  · split <;> exact ⟨_, _, rfl⟩
  · exact ⟨_, _, rfl⟩
theorem specRaw10_any (s : ByteArray) (a b c d u v : Int) (w : World) :
    Calls Tryd.prog 15 #[.agg #[.string s, .int .i64 a, .int .i64 b, .int .i64 c, .int .i64 d], .int .i64 u, .int .i64 v] w fun e w' => e = .returned (rawV10 s a b c d u v) ∧ Below w.heap.size w w' := by
  have h := specRaw_any s a b c d u v w
  rw [rawV_10] at h
  exact h
theorem upB_spot (u v : Int) : upB u v = spotB u v := rfl
set_option maxRecDepth 100000 in
set_option maxHeartbeats 2000000 in
theorem implRaw_any (s : ByteArray) (a b c d u v : Int) (hmax : s.size ≤ maxLen) (w : World) (hs : SinesOK w) :
    Calls Tryd.prog 17 #[.agg #[.string s, .int .i64 a, .int .i64 b, .int .i64 c, .int .i64 d], .int .i64 u, .int .i64 v] w fun e w' => e = .returned (rawV10 s a b c d u v) ∧ Below w.heap.size w w' := by
  unfold rawV10
  have V := Lib.hid (fun w => projValid_any s a b c d hmax w)
  have UP := Lib.hid (fun w => isUp_any u v w)
  simp only [upB_spot] at UP
  have E := Lib.hid hs
  clear hs hmax
  cases hg : starB s a b c d with
  | false =>
    rw [if_neg (by simp)]
    rw [hg] at V
    clear hg
    go_enter Tryd.func17, Tryd.ntmps17
    go_wp2_with fail
    refine (V.out _).mono ?_
    rintro e w1 ⟨rfl, hb⟩
    have hsw1 := hb.size
    try simp at hsw1
    obtain ⟨hcw1, hfw1⟩ := bcell hb
    have HBw1 : Hid (Below w.heap.size w w1) := by
      apply Lib.hid
      refine Below.trans ?_ (hb.mono ?_)
      · repeat (first | exact Below.refl _ _ | refine Below.setCell ?_ (by first | (simp; done) | omega | (simp; omega)) _ | refine Below.alloc ?_ (by first | (simp; done) | omega | (simp; omega)) _)
      · first | (simp; done) | omega | (simp; omega)
    have hzw1 : w.heap.size + 1 < w1.heap.size := by have := hb.size; (try simp at this); omega
    have hyw1 : w.heap.size < w1.heap.size := by have := hb.size; (try simp at this); omega
    clear hb
    go_wp2_with fail
    refine bodyPost_ret (v := .tuple #[.int .i64 0, .int .i64 1]) (by first | (simp [results, Tryd.results17, go_sem]; done) | (simp [results, Tryd.results17, go_sem, *]; done)) rfl ⟨rfl, ?_⟩
    repeat (first | exact Below.refl _ _ | exact HBw1.out | refine Below.setCell ?_ (by first | (simp; done) | omega | (simp; omega)) _ | refine Below.alloc ?_ (by first | (simp; done) | omega | (simp; omega)) _ | refine bel_drew ?_)
  | true =>
    rw [if_pos rfl]
    rw [hg] at V
    cases hu : spotB u v with
    | false =>
      rw [if_neg (by simp)]
      rw [hu] at UP
      clear hg hu
      go_enter Tryd.func17, Tryd.ntmps17
      go_wp2_with fail
      refine (V.out _).mono ?_
      rintro e w1 ⟨rfl, hb⟩
      have hsw1 := hb.size
      try simp at hsw1
      obtain ⟨hcw1, hfw1⟩ := bcell hb
      have HBw1 : Hid (Below w.heap.size w w1) := by
        apply Lib.hid
        refine Below.trans ?_ (hb.mono ?_)
        · repeat (first | exact Below.refl _ _ | refine Below.setCell ?_ (by first | (simp; done) | omega | (simp; omega)) _ | refine Below.alloc ?_ (by first | (simp; done) | omega | (simp; omega)) _)
        · first | (simp; done) | omega | (simp; omega)
      have hzw1 : w.heap.size + 1 < w1.heap.size := by have := hb.size; (try simp at this); omega
      have hyw1 : w.heap.size < w1.heap.size := by have := hb.size; (try simp at this); omega
      clear hb
      go_wp2_with fail
      refine (UP.out _).mono ?_
      rintro e w2 ⟨rfl, hb⟩
      have hsw2 := hb.size
      try simp at hsw2
      obtain ⟨hcw2, hfw2⟩ := bcell hb
      have HBw2 : Hid (Below w.heap.size w w2) := by
        apply Lib.hid
        refine Below.trans ?_ (hb.mono ?_)
        · repeat (first | exact Below.refl _ _ | exact HBw1.out | refine Below.setCell ?_ (by first | (simp; done) | omega | (simp; omega)) _ | refine Below.alloc ?_ (by first | (simp; done) | omega | (simp; omega)) _)
        · first | (simp; done) | omega | (simp; omega)
      have hzw2 : w.heap.size + 1 < w2.heap.size := by have := hb.size; (try simp at this); omega
      have hyw2 : w.heap.size < w2.heap.size := by have := hb.size; (try simp at this); omega
      clear hb
      first | (have gsw2w1 : w1.heap.size < w2.heap.size := by omega) | skip
      go_wp2_with fail
      refine bodyPost_ret (v := .tuple #[.int .i64 0, .int .i64 2]) (by first | (simp [results, Tryd.results17, go_sem]; done) | (simp [results, Tryd.results17, go_sem, *]; done)) rfl ⟨rfl, ?_⟩
      repeat (first | exact Below.refl _ _ | exact HBw2.out | refine Below.setCell ?_ (by first | (simp; done) | omega | (simp; omega)) _ | refine Below.alloc ?_ (by first | (simp; done) | omega | (simp; omega)) _ | refine bel_drew ?_)
    | true =>
      rw [if_pos rfl]
      rw [hu] at UP
      obtain ⟨⟨u0, u1⟩, v0, v1⟩ := spotB_bd hu
      have WA := Lib.hid (fun w hs => weightAt_any s a b c d u v hg u0 u1 (by omega) v1 w hs)
      clear hg hu u0 u1 v0 v1
      generalize rawN ⟨s, a, b, c, d⟩ u v = r at *
      go_enter Tryd.func17, Tryd.ntmps17
      go_wp2_with fail
      refine (V.out _).mono ?_
      rintro e w1 ⟨rfl, hb⟩
      have hsw1 := hb.size
      try simp at hsw1
      obtain ⟨hcw1, hfw1⟩ := bcell hb
      have HBw1 : Hid (Below w.heap.size w w1) := by
        apply Lib.hid
        refine Below.trans ?_ (hb.mono ?_)
        · repeat (first | exact Below.refl _ _ | refine Below.setCell ?_ (by first | (simp; done) | omega | (simp; omega)) _ | refine Below.alloc ?_ (by first | (simp; done) | omega | (simp; omega)) _)
        · first | (simp; done) | omega | (simp; omega)
      have hzw1 : w.heap.size + 1 < w1.heap.size := by have := hb.size; (try simp at this); omega
      have hyw1 : w.heap.size < w1.heap.size := by have := hb.size; (try simp at this); omega
      clear hb
      go_wp2_with fail
      refine (UP.out _).mono ?_
      rintro e w2 ⟨rfl, hb⟩
      have hsw2 := hb.size
      try simp at hsw2
      obtain ⟨hcw2, hfw2⟩ := bcell hb
      have HBw2 : Hid (Below w.heap.size w w2) := by
        apply Lib.hid
        refine Below.trans ?_ (hb.mono ?_)
        · repeat (first | exact Below.refl _ _ | exact HBw1.out | refine Below.setCell ?_ (by first | (simp; done) | omega | (simp; omega)) _ | refine Below.alloc ?_ (by first | (simp; done) | omega | (simp; omega)) _)
        · first | (simp; done) | omega | (simp; omega)
      have hzw2 : w.heap.size + 1 < w2.heap.size := by have := hb.size; (try simp at this); omega
      have hyw2 : w.heap.size < w2.heap.size := by have := hb.size; (try simp at this); omega
      clear hb
      first | (have gsw2w1 : w1.heap.size < w2.heap.size := by omega) | skip
      go_wp2_with fail
      refine (WA.out _ (E.out.below HBw2.out)).mono ?_
      rintro e w3 ⟨rfl, hb⟩
      have HB3 := Lib.hid (HBw2.out.trans (hb.mono HBw2.out.size))
      clear hb
      go_wp2_with fail
      refine bodyPost_ret (v := .tuple #[.int .i64 r, .int .i64 0]) (by first | (simp [results, Tryd.results17, go_sem]; done) | (simp [results, Tryd.results17, go_sem, *]; done)) rfl ⟨rfl, ?_⟩
      repeat (first | exact Below.refl _ _ | exact HB3.out | refine Below.setCell ?_ (by first | (simp; done) | omega | (simp; omega)) _ | refine Below.alloc ?_ (by first | (simp; done) | omega | (simp; omega)) _ | refine bel_drew ?_)
end Go.Proofs.YtlklcpnnaolbeaaDoor
