/-
  LineLength (packages impl and spec).
-/
import Derived.Test.YtoellkbmhpekdaaDoorFar1
namespace Go.Proofs.YtoellkbmhpekdaaDoor
open Go.RowKit
set_option linter.unusedVariables false

theorem okL_good {zs : List StarV} (h : okL zs = true) (j : Nat) (hj : j < zs.length) : zs[j].good = true := by
  unfold okL at h
  simp only [Bool.and_eq_true] at h
  have h1 := h.1
  unfold okZ at h1
  rw [List.all_eq_true] at h1
  have h2 := h1 j (List.mem_range.2 hj)
  unfold stepB at h2
  rw [getD_at zs j hj] at h2
  simp only [Bool.and_eq_true] at h2
  exact h2.1
theorem okL_dir {zs : List StarV} (h : okL zs = true) (j : Nat) (hj : j < zs.length) : dirB zs[j].a zs[j].b = true := by
  have h1 := okL_good h j hj
  unfold StarV.good starB at h1
  simp only [Bool.and_eq_true] at h1
  exact h1.2.1
theorem okL_len {zs : List StarV} (h : okL zs = true) : zs.length ≤ 24 := by
  unfold okL at h
  simp only [Bool.and_eq_true, decide_eq_true_eq] at h
  exact h.2

def lineV (zs : List StarV) (i k : Int) : Int × Int := if okL zs = true then (if inR 0 ((zs.length : Int) - 1) [i, k] = true then (farN (zs.getD i.toNat star0) (zs.getD k.toNat star0), 0) else (0, 2)) else (0, 1)

theorem keepT {w W W' : World} {g g' o o' : Nat} {v0 v1 v2 v3 v4 u0 u1 u2 u3 u4 : Value} (h : W.cell? ⟨g, o, none⟩ = some v0 ∧ W.cell? ⟨g, o + 1, none⟩ = some v1 ∧ W.cell? ⟨g, o + 2, none⟩ = some v2 ∧ W.cell? ⟨g, o + 3, none⟩ = some v3 ∧ W.cell? ⟨g, o + 4, none⟩ = some v4 ∧ W.cell? ⟨g', o', none⟩ = some u0 ∧ W.cell? ⟨g', o' + 1, none⟩ = some u1 ∧ W.cell? ⟨g', o' + 2, none⟩ = some u2 ∧ W.cell? ⟨g', o' + 3, none⟩ = some u3 ∧ W.cell? ⟨g', o' + 4, none⟩ = some u4 ∧ Below w.heap.size w W) (hb : Below W.heap.size W W') :
    W'.cell? ⟨g, o, none⟩ = some v0 ∧ W'.cell? ⟨g, o + 1, none⟩ = some v1 ∧ W'.cell? ⟨g, o + 2, none⟩ = some v2 ∧ W'.cell? ⟨g, o + 3, none⟩ = some v3 ∧ W'.cell? ⟨g, o + 4, none⟩ = some v4 ∧ W'.cell? ⟨g', o', none⟩ = some u0 ∧ W'.cell? ⟨g', o' + 1, none⟩ = some u1 ∧ W'.cell? ⟨g', o' + 2, none⟩ = some u2 ∧ W'.cell? ⟨g', o' + 3, none⟩ = some u3 ∧ W'.cell? ⟨g', o' + 4, none⟩ = some u4 ∧ Below w.heap.size w W' := by
  obtain ⟨h0, h1, h2, h3, h4, k0, k1, k2, k3, k4, hB⟩ := h
  have l0 := World.block_lt_of_cell? W ⟨g, o, none⟩ h0
  have l1 := World.block_lt_of_cell? W ⟨g', o', none⟩ k0
  obtain ⟨b, _⟩ := bcell hb
  exact ⟨(b _ _ l0).trans h0, (b _ _ l0).trans h1, (b _ _ l0).trans h2, (b _ _ l0).trans h3, (b _ _ l0).trans h4, (b _ _ l1).trans k0, (b _ _ l1).trans k1, (b _ _ l1).trans k2, (b _ _ l1).trans k3, (b _ _ l1).trans k4, hB.trans (hb.mono hB.size)⟩

set_option maxHeartbeats 400000 in
theorem isIndex2_any (n : Int) (h0 : 0 ≤ n) (h1 : n ≤ 1048577) (i k : Int) (b cap : Nat) (w : World) (hc : w.cell? ⟨b, 0, none⟩ = some (.int .i64 i)) (hc' : w.cell? ⟨b, 1, none⟩ = some (.int .i64 k)) :
    Calls Tryd.prog 59 #[.int .i64 n, .slice (some ⟨b, 0, none⟩) 2 cap] w fun e w' => e = .returned (.bool (inR 0 (n - 1) [i, k])) ∧ w = w' := by
  have W := Lib.hid (within2 0 (n - 1) i k b cap w hc hc')
  clear hc hc'
  go_enter Tryd.func59, Tryd.ntmps59
  go_wp2_with fail
  refine W.out.mono ?_
  rintro e w' ⟨rfl, rfl⟩
  go_wp2_with fail
  go_ret
  exact ⟨rfl, rfl⟩

set_option maxRecDepth 100000 in
set_option maxHeartbeats 2000000 in
theorem implLine_any (g cap : Nat) (zs : List StarV) (i k : Int) (w : World) (hs : SinesOK w) (hb : zs.length ≤ 1048577) (h1 : Row w g zs) (hok : ∀ j, (h : j < zs.length) → zs[j].ok) :
    Calls Tryd.prog 29 #[.slice (some ⟨g, 0, none⟩) zs.length cap, .int .i64 i, .int .i64 k] w fun e w' => e = .returned (.tuple #[.int .i64 (lineV zs i k).1, .int .i64 (lineV zs i k).2]) ∧ Below w.heap.size w w' := by
  have V := Lib.hid (validStars_any g cap zs w hb h1 hok)
  have IX := Lib.hid (fun b cap w hc hc' => isIndex2_any (zs.length : Int) (by omega) (by omega) i k b cap w hc hc')
  have E := Lib.hid hs
  have H1 := Lib.hid h1
  have OK := Lib.hid hok
  clear h1 hok hs
  unfold lineV
  cases ho : okL zs with
  | false =>
    rw [if_neg (by simp)]
    rw [ho] at V
    clear ho
    go_enter Tryd.func29, Tryd.ntmps29
    go_wp2_with fail
    refine V.out.mono ?_
    rintro e w1 ⟨rfl, hb1⟩
    have HB := Lib.hid hb1
    clear hb1
    go_wp2_with fail
    go_ret2
    exact ⟨rfl, HB.out⟩
  | true =>
    rw [if_pos rfl]
    rw [ho] at V
    cases hi : inR 0 ((zs.length : Int) - 1) [i, k] with
    | false =>
      rw [if_neg (by simp)]
      rw [hi] at IX
      clear ho hi
      go_enter Tryd.func29, Tryd.ntmps29
      go_wp2_with fail
      refine V.out.mono ?_
      rintro e w1 ⟨rfl, hb1⟩
      have HB := Lib.hid hb1
      clear hb1
      go_wp2_with fail
      refine (IX.out _ _ _ (by simp) (by simp)).mono ?_
      rintro e w2 ⟨rfl, rfl⟩
      go_wp2_with fail
      go_ret2
      exact ⟨rfl, HB.out.alloc HB.out.size _⟩
    | true =>
      rw [if_pos rfl]
      rw [hi] at IX
      rw [inR_2] at hi
      simp only [Bool.and_eq_true, inR_1] at hi
      obtain ⟨⟨i0, i1⟩, k0, k1⟩ := hi
      obtain ⟨ni, rfl⟩ : ∃ n : Nat, i = (n : Int) := ⟨i.toNat, by omega⟩
      obtain ⟨nk, rfl⟩ : ∃ n : Nat, k = (n : Int) := ⟨k.toNat, by omega⟩
      have li : ni < zs.length := by omega
      have lk : nk < zs.length := by omega
      rw [Int.toNat_natCast, Int.toNat_natCast, getD_at zs ni li, getD_at zs nk lk]
      have D := Lib.hid (fun w hs => distSS_any zs[ni].s zs[ni].a zs[ni].b zs[ni].c zs[ni].d (OK.out ni li).2.1 zs[nk].s zs[nk].a zs[nk].b zs[nk].c zs[nk].d (OK.out nk lk).2.1 w hs)
      have hf : sepN (dirT zs[ni].a zs[ni].b) (dirT zs[nk].a zs[nk].b) = farN zs[ni] zs[nk] := rfl
      rw [hf] at D
      unfold sightS at D
      have hAI := fun (W : World) (hB : Below w.heap.size w W) => (H1.out.below hB).at ni li
      have hAK := fun (W : World) (hB : Below w.heap.size w W) => (H1.out.below hB).at nk lk
      clear ho hf H1 OK
      generalize farN zs[ni] zs[nk] = n at *
      generalize zs[ni] = x at *
      generalize zs[nk] = y at *
      obtain ⟨xs, xa, xb, xc, xd⟩ := x
      obtain ⟨ys, ya, yb, yc, yd⟩ := y
      have AI := Lib.hid hAI
      have AK := Lib.hid hAK
      clear hAI hAK
      simp only at D
      have i2 : (ni : Int) < (zs.length : Int) := by omega
      have k2 : (nk : Int) < (zs.length : Int) := by omega
      go_enter Tryd.func29, Tryd.ntmps29
      go_wp2_with fail
      refine V.out.mono ?_
      rintro e w1 ⟨rfl, hb1⟩
      have HB := Lib.hid hb1
      clear hb1
      go_wp2_with fail
      refine (IX.out _ _ _ (by simp) (by simp)).mono ?_
      rintro e w2 ⟨rfl, rfl⟩
      obtain ⟨W0, hW0⟩ : ∃ W0, W0 = w1.alloc (Obj.cells #[.int .i64 (ni : Int), .int .i64 (nk : Int)] 2) := ⟨_, rfl⟩
      have hB0 : Below w.heap.size w W0 := by rw [hW0]; exact HB.out.alloc HB.out.size _
      obtain ⟨c0, c1, c2, c3, c4⟩ := AI.out W0 hB0
      obtain ⟨d0, d1, d2, d3, d4⟩ := AK.out W0 hB0
      simp only at c0 c1 c2 c3 c4 d0 d1 d2 d3 d4
      have K : Hid (W0.cell? ⟨g, ni * 5, none⟩ = some (.string xs) ∧ W0.cell? ⟨g, ni * 5 + 1, none⟩ = some (.int .i64 xa) ∧ W0.cell? ⟨g, ni * 5 + 2, none⟩ = some (.int .i64 xb) ∧ W0.cell? ⟨g, ni * 5 + 3, none⟩ = some (.int .i64 xc) ∧ W0.cell? ⟨g, ni * 5 + 4, none⟩ = some (.int .i64 xd) ∧ W0.cell? ⟨g, nk * 5, none⟩ = some (.string ys) ∧ W0.cell? ⟨g, nk * 5 + 1, none⟩ = some (.int .i64 ya) ∧ W0.cell? ⟨g, nk * 5 + 2, none⟩ = some (.int .i64 yb) ∧ W0.cell? ⟨g, nk * 5 + 3, none⟩ = some (.int .i64 yc) ∧ W0.cell? ⟨g, nk * 5 + 4, none⟩ = some (.int .i64 yd) ∧ Below w.heap.size w W0) := Lib.hid ⟨c0, c1, c2, c3, c4, d0, d1, d2, d3, d4, hB0⟩
      have EE := Lib.hid (fun (W : World) (h : Below W0.heap.size W0 W) => E.out.below (hB0.trans (h.mono hB0.size)))
      try rw [← hW0]
      clear hW0 hB0 HB c0 c1 c2 c3 c4 d0 d1 d2 d3 d4 AI AK V IX
      go_wp2_with fail
      go_region_held3 (fun W => W.cell? ⟨g, ni * 5, none⟩ = some (.string xs) ∧ W.cell? ⟨g, ni * 5 + 1, none⟩ = some (.int .i64 xa) ∧ W.cell? ⟨g, ni * 5 + 2, none⟩ = some (.int .i64 xb) ∧ W.cell? ⟨g, ni * 5 + 3, none⟩ = some (.int .i64 xc) ∧ W.cell? ⟨g, ni * 5 + 4, none⟩ = some (.int .i64 xd) ∧ W.cell? ⟨g, nk * 5, none⟩ = some (.string ys) ∧ W.cell? ⟨g, nk * 5 + 1, none⟩ = some (.int .i64 ya) ∧ W.cell? ⟨g, nk * 5 + 2, none⟩ = some (.int .i64 yb) ∧ W.cell? ⟨g, nk * 5 + 3, none⟩ = some (.int .i64 yc) ∧ W.cell? ⟨g, nk * 5 + 4, none⟩ = some (.int .i64 yd) ∧ Below w.heap.size w W) (first | (exact keepT K.out (drewS W0)) | (exact keepT K.out z1) | go_keep) ((first
        | (go_at_call 60; (with_reducible refine (D.out _ (EE.out _ (drewS W0))).mono ?_); rintro e u1 ⟨rfl, hu1⟩; have z1 := undrewS hu1)))
      all_goals
        rename_i held
        have HH := Lib.hid held.2.2.2.2.2.2.2.2.2.2
        clear held K
        go_wp2_with fail
        go_ret2
        exact ⟨rfl, HH.out⟩

set_option maxRecDepth 100000 in
set_option maxHeartbeats 2000000 in
theorem specLine_any (g cap : Nat) (zs : List StarV) (i k : Int) (w : World) (hb : zs.length ≤ 1048577) (h1 : Row w g zs) :
    Calls Tryd.prog 27 #[.slice (some ⟨g, 0, none⟩) zs.length cap, .int .i64 i, .int .i64 k] w fun e w' => e = .returned (.tuple #[.int .i64 (lineV zs i k).1, .int .i64 (lineV zs i k).2]) ∧ Below w.heap.size w w' := by
  have V := Lib.hid (l05Ok_any g cap zs w hb h1)
  have JI := Lib.hid (fun w => l00In_any i 0 ((zs.length : Int) - 1) w)
  have JK := Lib.hid (fun w => l00In_any k 0 ((zs.length : Int) - 1) w)
  have H1 := Lib.hid h1
  clear h1
  unfold lineV
  cases ho : okL zs with
  | false =>
    rw [if_neg (by simp)]
    rw [ho] at V
    clear ho
    go_enter Tryd.func27, Tryd.ntmps27
    go_wp2_with fail
    refine V.out.mono ?_
    rintro e w1 ⟨rfl, hb1⟩
    have HB := Lib.hid hb1
    clear hb1
    go_wp2_with fail
    go_ret2
    exact ⟨rfl, HB.out⟩
  | true =>
    rw [if_pos rfl, inR_2]
    rw [ho] at V
    cases hi : inR 0 ((zs.length : Int) - 1) [i] with
    | false =>
      rw [if_neg (by simp)]
      rw [hi] at JI
      clear ho hi
      go_enter Tryd.func27, Tryd.ntmps27
      go_wp2_with fail
      refine V.out.mono ?_
      rintro e w1 ⟨rfl, hb1⟩
      have HB := Lib.hid hb1
      clear hb1
      go_wp2_with fail
      refine (JI.out _).mono ?_
      rintro e w2 ⟨rfl, rfl⟩
      go_wp2_with fail
      go_ret2
      exact ⟨rfl, HB.out⟩
    | true =>
      rw [hi] at JI
      cases hk : inR 0 ((zs.length : Int) - 1) [k] with
      | false =>
        rw [if_neg (by simp)]
        rw [hk] at JK
        clear ho hi hk
        go_enter Tryd.func27, Tryd.ntmps27
        go_wp2_with fail
        refine V.out.mono ?_
        rintro e w1 ⟨rfl, hb1⟩
        have HB := Lib.hid hb1
        clear hb1
        go_wp2_with fail
        refine (JI.out _).mono ?_
        rintro e w2 ⟨rfl, rfl⟩
        go_wp2_with fail
        refine (JK.out _).mono ?_
        rintro e w2 ⟨rfl, rfl⟩
        go_wp2_with fail
        go_ret2
        exact ⟨rfl, HB.out⟩
      | true =>
        rw [if_pos (by simp)]
        rw [hk] at JK
        rw [inR_1] at hi hk
        obtain ⟨i0, i1⟩ := hi
        obtain ⟨k0, k1⟩ := hk
        obtain ⟨ni, rfl⟩ : ∃ n : Nat, i = (n : Int) := ⟨i.toNat, by omega⟩
        obtain ⟨nk, rfl⟩ : ∃ n : Nat, k = (n : Int) := ⟨k.toNat, by omega⟩
        have li : ni < zs.length := by omega
        have lk : nk < zs.length := by omega
        rw [Int.toNat_natCast, Int.toNat_natCast, getD_at zs ni li, getD_at zs nk lk]
        have FA := Lib.hid (far_any g (ni * 5) g (nk * 5) zs[ni] zs[nk] (okL_dir ho ni li) (okL_dir ho nk lk))
        have AI := Lib.hid (fun (W : World) (hB : Below w.heap.size w W) => (H1.out.below hB).at ni li)
        have AK := Lib.hid (fun (W : World) (hB : Below w.heap.size w W) => (H1.out.below hB).at nk lk)
        clear ho H1
        generalize farN zs[ni] zs[nk] = n at *
        generalize zs[ni] = x at *
        generalize zs[nk] = y at *
        have i2 : (ni : Int) < (zs.length : Int) := by omega
        have k2 : (nk : Int) < (zs.length : Int) := by omega
        go_enter Tryd.func27, Tryd.ntmps27
        go_wp2_with fail
        refine V.out.mono ?_
        rintro e w1 ⟨rfl, hb1⟩
        have HB := Lib.hid hb1
        clear hb1
        go_wp2_with fail
        refine (JI.out _).mono ?_
        rintro e w2 ⟨rfl, rfl⟩
        go_wp2_with fail
        refine (JK.out _).mono ?_
        rintro e w2 ⟨rfl, rfl⟩
        have FD := Lib.hid (FA.out w1.drew (AI.out w1 HB.out).c1 (AI.out w1 HB.out).c2 (AK.out w1 HB.out).c1 (AK.out w1 HB.out).c2)
        have K : Hid (w1.cell? ⟨g, ni * 5 + 1, none⟩ = some (.int .i64 x.a) ∧ w1.cell? ⟨g, ni * 5 + 2, none⟩ = some (.int .i64 x.b) ∧ w1.cell? ⟨g, nk * 5 + 1, none⟩ = some (.int .i64 y.a) ∧ w1.cell? ⟨g, nk * 5 + 2, none⟩ = some (.int .i64 y.b) ∧ Below w.heap.size w w1) := Lib.hid ⟨(AI.out w1 HB.out).c1, (AI.out w1 HB.out).c2, (AK.out w1 HB.out).c1, (AK.out w1 HB.out).c2, HB.out⟩
        clear FA AI AK V JI JK
        go_wp2_with fail
        go_region_held3 (fun W => W.cell? ⟨g, ni * 5 + 1, none⟩ = some (.int .i64 x.a) ∧ W.cell? ⟨g, ni * 5 + 2, none⟩ = some (.int .i64 x.b) ∧ W.cell? ⟨g, nk * 5 + 1, none⟩ = some (.int .i64 y.a) ∧ W.cell? ⟨g, nk * 5 + 2, none⟩ = some (.int .i64 y.b) ∧ Below w.heap.size w W) (first | (exact keepF K.out (drewS w1)) | (exact keepF K.out z1) | go_keep) ((go_at_call 56; (with_reducible refine (FD.out).mono ?_); rintro e u1 ⟨rfl, hu1⟩; have z1 := undrewS hu1))
        all_goals
          rename_i held
          have HH := Lib.hid held.2.2.2.2
          clear held K
          go_wp2_with fail
          go_ret2
          exact ⟨rfl, HH.out⟩
end Go.Proofs.YtoellkbmhpekdaaDoor
