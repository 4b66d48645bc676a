/-
  AddStar (package impl): the walk.
-/
import Derived.Test.YtfjhlapcopjfiaaAddI
import Derived.Laws.CopyOwn
import Derived.IntWalk
namespace Go.Proofs.Ytfjhlapcopjfiaa
open Go.RowKit
set_option linter.unusedVariables false

def Stop1 (P : Prop) : Prop := P
theorem stop1 (P : Prop) (h : Stop1 P) : P := h

set_option maxRecDepth 100000 in
set_option maxHeartbeats 8000000 in
theorem implAdd_any (g : Nat) (zs : List StarV) (xs : ByteArray) (xa xb xc xd : Int) (w : World) (hb : zs.length ≤ 1048577) (h1 : Row w g zs) (hok : ∀ j, (h : j < zs.length) → zs[j].ok) (hx : xs.size ≤ maxLen) :
    Calls Try.prog 53 #[.slice (some ⟨g, 0, none⟩) zs.length zs.length, .agg #[.string xs, .int .i64 xa, .int .i64 xb, .int .i64 xc, .int .i64 xd]] w (SPost (addV zs ⟨xs, xa, xb, xc, xd⟩) w) := by
  have hb0 : Below w.heap.size w ((w.alloc (Obj.cells #[.slice (some ⟨g, 0, none⟩) zs.length zs.length] 32)).alloc (Obj.cells #[.string xs, .int .i64 xa, .int .i64 xb, .int .i64 xc, .int .i64 xd] 26)) := ((Below.refl _ _).alloc (Nat.le_refl _) _).alloc (by simp) _
  have bx0 : Boxes ((w.alloc (Obj.cells #[.slice (some ⟨g, 0, none⟩) zs.length zs.length] 32)).alloc (Obj.cells #[.string xs, .int .i64 xa, .int .i64 xb, .int .i64 xc, .int .i64 xd] 26)) w.heap.size g zs ⟨xs, xa, xb, xc, xd⟩ := Boxes.mk' ⟨by simp, by simp, by simp, by simp, by simp, by simp⟩
  obtain ⟨Z, hZ⟩ : ∃ Z, Z = (w.alloc (Obj.cells #[.slice (some ⟨g, 0, none⟩) zs.length zs.length] 32)).alloc (Obj.cells #[.string xs, .int .i64 xa, .int .i64 xb, .int .i64 xc, .int .i64 xd] 26) := ⟨_, rfl⟩
  rw [← hZ] at hb0 bx0
  have V := Lib.hid (validStars_any g zs.length zs Z hb (h1.below hb0) hok)
  have VS : Hid (∀ w, Calls Try.prog 17 #[.agg #[.string xs, .int .i64 xa, .int .i64 xb, .int .i64 xc, .int .i64 xd]] w fun e w' => e = .returned (.bool (StarV.good ⟨xs, xa, xb, xc, xd⟩)) ∧ Below w.heap.size w w') := Lib.hid (fun w => validStar_any xs xa xb xc xd hx w)
  have HZ := Lib.hid hZ
  have HB0 := Lib.hid hb0
  have BX := Lib.hid bx0
  have H1 := Lib.hid h1
  clear h1 hok hb0 bx0 hZ hx
  unfold addV
  cases ho : okL zs with
  | false =>
    rw [if_neg (by simp)]
    rw [ho] at V
    clear ho
    go_enter Try.func53, Try.ntmps53
    go_wp2_with fail
    rw [← HZ.out]
    refine V.out.mono ?_
    rintro e w1 ⟨rfl, hb1⟩
    have HB1 := Lib.hid (HB0.out.trans (hb1.mono HB0.out.size))
    have BX1 := Lib.hid (BX.out.below hb1)
    clear hb1
    go_wp2_with fail
    go_ret2
    exact ⟨_, rfl, SOwn.nil _ _, HB1.out⟩
  | true =>
    rw [ho] at V
    have hz24 := okL_lenD ho
    have MONO := Lib.hid (gtP_mono ho xs)
    have hne : ∀ i j, i < j → (hj : j < zs.length) → (zs.getD i star0).s ≠ (zs.getD j star0).s := fun i j hij hj => by
      rw [getD_at zs i (by omega), getD_at zs j hj]
      exact okL_names ho i j hij hj
    have P := Lib.hid (fun (W : World) (hB : Below w.heap.size w W) => starPlaces_any g zs.length zs W hb (H1.out.below hB) hne)
    clear ho
    cases hg : StarV.good ⟨xs, xa, xb, xc, xd⟩ with
    | false =>
      rw [if_neg (by simp)]
      rw [hg] at VS
      clear hg hne
      go_enter Try.func53, Try.ntmps53
      go_wp2_with fail
      rw [← HZ.out]
      refine V.out.mono ?_
      rintro e w1 ⟨rfl, hb1⟩
      have HB1 := Lib.hid (HB0.out.trans (hb1.mono HB0.out.size))
      have BX1 := Lib.hid (BX.out.below hb1)
      clear hb1
      obtain ⟨b0, c0, c1, c2, c3, c4⟩ := BX1.out.all
      go_wp2_with fail
      refine (VS.out _).mono ?_
      rintro e w2 ⟨rfl, hb2⟩
      have HB2 := Lib.hid (HB1.out.trans (hb2.mono HB1.out.size))
      have BX2 := Lib.hid (BX1.out.below hb2)
      clear hb2 b0 c0 c1 c2 c3 c4
      go_wp2_with fail
      go_ret2
      exact ⟨_, rfl, SOwn.nil _ _, HB2.out⟩
    | true =>
      rw [if_pos (by simp)]
      rw [hg] at VS
      clear hg
      by_cases hf : fndS zs xs < zs.length
      · rw [if_pos hf]
        have hs := fndS_is hf
        have FA : Instr.findNow .string (.string xs) (entsS zs zs.length).toList 0 = some (some (fndS zs xs, .int .i64 (fndS zs xs : Int))) := find_at _ hf (by rw [getD_at zs _ hf]; exact hs) (fun i hi hne2 e => by
          rcases Nat.lt_or_gt_of_ne hne2 with c | c
          · exact hne i _ c hf (by rw [e, getD_at zs _ hf]; exact hs.symm)
          · exact hne _ i c hi (by rw [e, getD_at zs _ hf]; exact hs))
        have HFA := Lib.hid FA
        clear FA hs hne
        generalize fndS zs xs = f at *
        go_enter Try.func53, Try.ntmps53
        go_wp2_with fail
        rw [← HZ.out]
        refine V.out.mono ?_
        rintro e w1 ⟨rfl, hb1⟩
        have HB1 := Lib.hid (HB0.out.trans (hb1.mono HB0.out.size))
        have BX1 := Lib.hid (BX.out.below hb1)
        clear hb1
        obtain ⟨b0, c0, c1, c2, c3, c4⟩ := BX1.out.all
        go_wp2_with fail
        refine (VS.out _).mono ?_
        rintro e w2 ⟨rfl, hb2⟩
        have HB2 := Lib.hid (HB1.out.trans (hb2.mono HB1.out.size))
        have BX2 := Lib.hid (BX1.out.below hb2)
        clear hb2 b0 c0 c1 c2 c3 c4
        have K : Hid (Boxes w2 w.heap.size g zs ⟨xs, xa, xb, xc, xd⟩ ∧ Below w.heap.size w w2) := Lib.hid ⟨BX2.out, HB2.out⟩
        have KS : Hid (w.heap.size ≤ w2.heap.size) := Lib.hid HB2.out.size
        go_wp2_with fail
        go_region_held3 (fun W => W.cell? ⟨w.heap.size, 0, none⟩ = some (.slice (some ⟨g, 0, none⟩) zs.length zs.length) ∧ W.cell? ⟨w.heap.size + 1, 0, none⟩ = some (.string xs) ∧ W.cell? ⟨w.heap.size + 1, 1, none⟩ = some (.int .i64 xa) ∧ W.cell? ⟨w.heap.size + 1, 2, none⟩ = some (.int .i64 xb) ∧ W.cell? ⟨w.heap.size + 1, 3, none⟩ = some (.int .i64 xc) ∧ W.cell? ⟨w.heap.size + 1, 4, none⟩ = some (.int .i64 xd) ∧ Below w.heap.size w W) (first | (exact keepB K.out KS.out (drewA w2)) | (exact keepB K.out KS.out z1) | go_keep) ((first
          | (go_at_call 65; (with_reducible refine (P.out _ (HB2.out.trans ((drewA w2).mono HB2.out.size))).mono ?_); rintro e u1 ⟨rfl, hmap, hu1⟩; have z1 := undrewA hu1; have hmq : u1.heap[w2.heap.size]? = some (.map (entsS zs zs.length) zs.length) := hmap; have LK := look_name 89 9 3 Try.underlying89 Try.underlying9 u1 _ _ _ hmq xs _ _ HFA.out)))
        all_goals
          rename_i held
          have HH := Lib.hid held.2.2.2.2.2.2
          clear held K
          go_wp2_with fail
          go_ret2
          exact ⟨_, rfl, SOwn.nil _ _, HH.out⟩
      · rw [if_neg hf]
        have FA : Instr.findNow .string (.string xs) (entsS zs zs.length).toList 0 = some none := find_new (fun i hi => by
          rw [getD_at zs i hi]
          exact fndS_not hf i hi)
        have HFA := Lib.hid FA
        have zi : ∀ w, (zeroValue 3).run Try.prog w = .ok (.int .i64 0) w := fun w => by kernel_rfl
        clear FA hf hne
        by_cases h24 : zs.length = 24
        · rw [if_pos h24]
          have h24' : (zs.length : Int) = 24 := by omega
          clear h24
          go_enter Try.func53, Try.ntmps53
          go_wp2_with fail
          rw [← HZ.out]
          refine V.out.mono ?_
          rintro e w1 ⟨rfl, hb1⟩
          have HB1 := Lib.hid (HB0.out.trans (hb1.mono HB0.out.size))
          have BX1 := Lib.hid (BX.out.below hb1)
          clear hb1
          obtain ⟨b0, c0, c1, c2, c3, c4⟩ := BX1.out.all
          go_wp2_with fail
          refine (VS.out _).mono ?_
          rintro e w2 ⟨rfl, hb2⟩
          have HB2 := Lib.hid (HB1.out.trans (hb2.mono HB1.out.size))
          have BX2 := Lib.hid (BX1.out.below hb2)
          clear hb2 b0 c0 c1 c2 c3 c4
          have K : Hid (Boxes w2 w.heap.size g zs ⟨xs, xa, xb, xc, xd⟩ ∧ Below w.heap.size w w2) := Lib.hid ⟨BX2.out, HB2.out⟩
          have KS : Hid (w.heap.size ≤ w2.heap.size) := Lib.hid HB2.out.size
          go_wp2_with fail
          go_region_held3 (fun W => W.cell? ⟨w.heap.size, 0, none⟩ = some (.slice (some ⟨g, 0, none⟩) zs.length zs.length) ∧ W.cell? ⟨w.heap.size + 1, 0, none⟩ = some (.string xs) ∧ W.cell? ⟨w.heap.size + 1, 1, none⟩ = some (.int .i64 xa) ∧ W.cell? ⟨w.heap.size + 1, 2, none⟩ = some (.int .i64 xb) ∧ W.cell? ⟨w.heap.size + 1, 3, none⟩ = some (.int .i64 xc) ∧ W.cell? ⟨w.heap.size + 1, 4, none⟩ = some (.int .i64 xd) ∧ Below w.heap.size w W) (first | (exact keepB K.out KS.out (drewA w2)) | (exact keepB K.out KS.out z1) | go_keep) ((first
            | (go_at_call 65; (with_reducible refine (P.out _ (HB2.out.trans ((drewA w2).mono HB2.out.size))).mono ?_); rintro e u1 ⟨rfl, hmap, hu1⟩; have z1 := undrewA hu1; have hmq : u1.heap[w2.heap.size]? = some (.map (entsS zs zs.length) zs.length) := hmap; have LK := look_no_name 89 9 3 Try.underlying89 Try.underlying9 u1 _ (zi u1) _ _ _ hmq xs HFA.out)))
          all_goals
            rename_i held
            have HH := Lib.hid held.2.2.2.2.2.2
            have b0 := held.1
            clear held K
            go_wp2_with fail
            go_ret2
            exact ⟨_, rfl, SOwn.nil _ _, HH.out⟩
        · rw [if_neg h24]
          have h24' : ¬ (zs.length : Int) = 24 := by omega
          have hatl := atS_le zs xs
          unfold atS at hatl ⊢
          obtain ⟨m, hm⟩ : ∃ m : Nat, m = zs.length + 1 := ⟨_, rfl⟩
          have hmi : ((zs.length : Int) + 1) = (m : Int) := by omega
          have hmk : ∀ w, (Instr.makeSlice 32 (.int .i64 ((zs.length : Int) + 1)) (.int .i64 ((zs.length : Int) + 1))).run Try.prog w = .ok (.slice (some ⟨w.heap.size, 0, none⟩) m m) (w.alloc (.cells (madeCells #[.string ByteArray.empty, .int .i64 0, .int .i64 0, .int .i64 0, .int .i64 0] (m * 5)) 26)) := fun w => by
            rw [hmi]
            exact star_make m (by omega) w
          have SR := Lib.hid (fun (W : World) (hB : Below w.heap.size w W) (hx : Boxes W w.heap.size g zs ⟨xs, xa, xb, xc, xd⟩) =>
            search_any 98 #[.pointer (some ⟨w.heap.size, 0, none⟩), .pointer (some ⟨w.heap.size + 1, 0, none⟩)] zs.length (gtP zs xs) W
              (enters_of Try.func98 (by kernel_rfl) rfl) (by omega)
              (fun W' i hb' hi => later_any w.heap.size g zs ⟨xs, xa, xb, xc, xd⟩ W' ((H1.out.below hB).below hb') (hx.below hb') i hi hb) MONO.out)
          generalize cnt zs.length (gtP zs xs) = k at *
          have L1 : (flatS (zs.take k)).length = k * 5 := by rw [flatS_len, List.length_take]; omega
          have L2 : (flatS (zs.drop k)).length = (zs.length - k) * 5 := by rw [flatS_len, List.length_drop]
          have P1 := Lib.hid (flatS_one (zs.take k))
          have P2 := Lib.hid (flatS_one (zs.drop k))
          have S1 : Hid (∀ W, Below w.heap.size w W → ∀ j u, (flatS (zs.take k))[j]? = some u → W.cell? ((⟨g, 0, none⟩ : Addr).add j) = some u) := Lib.hid (fun W hB => src_take H1.out k hB)
          have S2 : Hid (∀ W, Below w.heap.size w W → ∀ j u, (flatS (zs.drop k))[j]? = some u → W.cell? ((⟨g, k * 5, none⟩ : Addr).add j) = some u) := Lib.hid (fun W hB => src_drop H1.out k hB)
          have RES : Hid (∀ (W : World) (D : Nat) (Q : List Value), w.heap.size ≤ D → Q.length = m * 5 → W.heap[D]? = some (.cells (splice (splice (splice Q 0 (flatS (zs.take k))) (k * 5) ([.string xs, .int .i64 xa, .int .i64 xb, .int .i64 xc, .int .i64 xd] : List Value)) ((k + 1) * 5) (flatS (zs.drop k))).toArray 26 (0, 0)) → SOwn W w.heap.size (.slice (some ⟨D, 0, none⟩) m m) (zs.take k ++ [(⟨xs, xa, xb, xc, xd⟩ : StarV)] ++ zs.drop k)) := Lib.hid (fun W D Q hD hQ h => by
            rw [show (k + 1) * 5 = k * 5 + 5 by omega, splice_splice_splice Q _ ([.string xs, .int .i64 xa, .int .i64 xb, .int .i64 xc, .int .i64 xd] : List Value) _ (k * 5) 5 L1 rfl (by rw [hQ, L2]; omega)] at h
            have hl : (zs.take k ++ [(⟨xs, xa, xb, xc, xd⟩ : StarV)] ++ zs.drop k).length = m := by
              rw [List.length_append, List.length_append, List.length_take, List.length_drop, List.length_singleton]
              omega
            have hf : flatS (zs.take k ++ [(⟨xs, xa, xb, xc, xd⟩ : StarV)] ++ zs.drop k) = flatS (zs.take k) ++ (([.string xs, .int .i64 xa, .int .i64 xb, .int .i64 xc, .int .i64 xd] : List Value) ++ flatS (zs.drop k)) := by
              rw [flatS_app, flatS_app, List.append_assoc]
              rfl
            have hL : (flatS (zs.take k) ++ (([.string xs, .int .i64 xa, .int .i64 xb, .int .i64 xc, .int .i64 xd] : List Value) ++ flatS (zs.drop k))).length = m * 5 := by rw [← hf, flatS_len, hl]
            unfold SOwn
            rw [hf, hl]
            exact ⟨hL, Or.inr ⟨D, m, _, rfl, hD, h, Nat.le_refl _, by unfold maxLen; omega, by rw [List.size_toArray, hL], by
              rw [List.take_of_length_le (by rw [hL]; omega)]⟩⟩)
          generalize zs.take k ++ [(⟨xs, xa, xb, xc, xd⟩ : StarV)] ++ zs.drop k = R at *
          generalize flatS (zs.take k) = X1 at *
          generalize flatS (zs.drop k) = X2 at *
          have k0 : (0 : Int) ≤ (k : Int) := by omega
          have k1 : (k : Int) ≤ (zs.length : Int) := by omega
          have k3 : (k : Int) ≤ (m : Int) := by omega
          have k4 : (k : Int) < (m : Int) := by omega
          have hkm : k ≤ m := by omega
          have HM := Lib.hid hm
          clear hm hmi
          go_enter Try.func53, Try.ntmps53
          go_wp2_with fail
          rw [← HZ.out]
          refine V.out.mono ?_
          rintro e w1 ⟨rfl, hb1⟩
          have HB1 := Lib.hid (HB0.out.trans (hb1.mono HB0.out.size))
          have BX1 := Lib.hid (BX.out.below hb1)
          clear hb1
          obtain ⟨b0, c0, c1, c2, c3, c4⟩ := BX1.out.all
          go_wp2_with fail
          refine (VS.out _).mono ?_
          rintro e w2 ⟨rfl, hb2⟩
          have HB2 := Lib.hid (HB1.out.trans (hb2.mono HB1.out.size))
          have BX2 := Lib.hid (BX1.out.below hb2)
          clear hb2 b0 c0 c1 c2 c3 c4
          have K : Hid (Boxes w2 w.heap.size g zs ⟨xs, xa, xb, xc, xd⟩ ∧ Below w.heap.size w w2) := Lib.hid ⟨BX2.out, HB2.out⟩
          have KS : Hid (w.heap.size ≤ w2.heap.size) := Lib.hid HB2.out.size
          go_wp2_with fail
          go_region_held3 (fun W => W.cell? ⟨w.heap.size, 0, none⟩ = some (.slice (some ⟨g, 0, none⟩) zs.length zs.length) ∧ W.cell? ⟨w.heap.size + 1, 0, none⟩ = some (.string xs) ∧ W.cell? ⟨w.heap.size + 1, 1, none⟩ = some (.int .i64 xa) ∧ W.cell? ⟨w.heap.size + 1, 2, none⟩ = some (.int .i64 xb) ∧ W.cell? ⟨w.heap.size + 1, 3, none⟩ = some (.int .i64 xc) ∧ W.cell? ⟨w.heap.size + 1, 4, none⟩ = some (.int .i64 xd) ∧ Below w.heap.size w W) (first | (exact keepB K.out KS.out (drewA w2)) | (exact keepB K.out KS.out z1) | go_keep) ((first
            | (go_at_call 65; (with_reducible refine (P.out _ (HB2.out.trans ((drewA w2).mono HB2.out.size))).mono ?_); rintro e u1 ⟨rfl, hmap, hu1⟩; have z1 := undrewA hu1; have hmq : u1.heap[w2.heap.size]? = some (.map (entsS zs zs.length) zs.length) := hmap; have LK := look_no_name 89 9 3 Try.underlying89 Try.underlying9 u1 _ (zi u1) _ _ _ hmq xs HFA.out)))
          all_goals
            rename_i held
            have HB3 := Lib.hid held.2.2.2.2.2.2
            have BX3 := Lib.hid (Boxes.mk' ⟨held.1, held.2.1, held.2.2.1, held.2.2.2.1, held.2.2.2.2.1, held.2.2.2.2.2.1⟩)
            have b0 := held.1
            clear held K KS LK hmq hmap hu1 z1 HFA zi V VS P BX1 BX2 HB1 HB2
            go_wp2_with fail
            refine (SR.out _ HB3.out BX3.out).mono ?_
            rintro e w4 ⟨rfl, hb4⟩
            have HB4 := Lib.hid (HB3.out.trans (hb4.mono HB3.out.size))
            have BX4 := Lib.hid (BX3.out.below hb4)
            have b4 := BX4.out.c
            have hl5 := BX4.out.lt
            have hl4 : w.heap.size < w4.heap.size := by omega
            have hD := Nat.le_of_lt hl4
            have HB5 : Hid (Below w.heap.size w (w4.alloc (.cells (madeCells #[.string ByteArray.empty, .int .i64 0, .int .i64 0, .int .i64 0, .int .i64 0] (m * 5)) 26))) := Lib.hid (HB4.out.alloc HB4.out.size _)
            have HC5 : Hid (Below w4.heap.size w4 (w4.alloc (.cells (madeCells #[.string ByteArray.empty, .int .i64 0, .int .i64 0, .int .i64 0, .int .i64 0] (m * 5)) 26))) := Lib.hid ((Below.refl _ _).alloc (Nat.le_refl _) _)
            clear hb4 b0 SR
            go_wp2_with (refine wpList_copyN rfl (.tmp 40) (.tmp 43) 32 32 rfl 26 5 Try.underlying32 info5 (by decide) _ _ _ _ _ _ rfl rfl w4.heap.size 0 (zS m) 26 (made_heap w4 m) X1 k (min_left5 hkm) L1 (fun _ => ⟨rfl, _, rfl, S1.out _ HB5.out⟩) (by rw [L1, zS_len]; omega) P1.out w4.heap.size w4 HC5.out (Nat.le_refl _) ?_; intro w6 HG6 hb6; refine stop1 _ ?_)
            have HB6 := Lib.hid (HB4.out.trans (hb6.mono HB4.out.size))
            have BX6 := Lib.hid (BX4.out.below hb6)
            have ZL : (splice (zS m) 0 X1).length = m * 5 := by rw [length_splice _ _ _ (by rw [L1, zS_len]; omega), zS_len]
            have hfit : k * 5 + 5 ≤ (splice (zS m) 0 X1).length := by rw [ZL]; have := HM.out; omega
            obtain ⟨v0, d0⟩ := heap_cell HG6.out (k * 5) (by omega)
            obtain ⟨v1, d1⟩ := heap_cell HG6.out (k * 5 + 1) (by omega)
            obtain ⟨v2, d2⟩ := heap_cell HG6.out (k * 5 + 2) (by omega)
            obtain ⟨v3, d3⟩ := heap_cell HG6.out (k * 5 + 3) (by omega)
            obtain ⟨v4, d4⟩ := heap_cell HG6.out (k * 5 + 4) (by omega)
            have f0 := heap_frozen HG6.out (k * 5)
            have f1 := heap_frozen HG6.out (k * 5 + 1)
            have f2 := heap_frozen HG6.out (k * 5 + 2)
            have f3 := heap_frozen HG6.out (k * 5 + 3)
            have f4 := heap_frozen HG6.out (k * 5 + 4)
            obtain ⟨W7, hW7⟩ : ∃ W7, W7 = putAt w6 w4.heap.size (k * 5) ⟨xs, xa, xb, xc, xd⟩ := ⟨_, rfl⟩
            have HG7 : Hid (W7.drew.heap[w4.heap.size]? = some (.cells (splice (splice (zS m) 0 X1) (k * 5) [.string xs, .int .i64 xa, .int .i64 xb, .int .i64 xc, .int .i64 xd]).toArray 26 (0, 0))) := Lib.hid (by rw [hW7]; exact heap_put w6 _ _ _ _ ⟨xs, xa, xb, xc, xd⟩ HG6.out hfit)
            have hb7 : Below w4.heap.size w6 W7 := by rw [hW7]; exact putAt_below (Below.refl _ _) (Nat.le_refl _)
            have HB7 : Hid (Below w.heap.size w W7.drew) := Lib.hid ((HB6.out.trans (hb7.mono hD)).trans ⟨rfl, rfl, rfl, Nat.le_refl _, fun _ _ => rfl⟩)
            have b7 : W7.cell? ⟨w.heap.size, 0, none⟩ = some (.slice (some ⟨g, 0, none⟩) zs.length zs.length) := (hb7.cell (p := ⟨w.heap.size, 0, none⟩) hl4).trans BX6.out.c
            unfold putAt at hW7
            have HW7 := Lib.hid hW7
            obtain ⟨b6, c0, c1, c2, c3, c4⟩ := BX6.out.all
            clear hb6 hb7 hW7 HG6 hmk
            unfold Stop1
            go_wp2_with fail
            rw [← HW7.out]
            clear HW7 d0 d1 d2 d3 d4 f0 f1 f2 f3 f4 c0 c1 c2 c3 c4 b6 b4
            have CL : (splice (splice (zS m) 0 X1) (k * 5) [.string xs, .int .i64 xa, .int .i64 xb, .int .i64 xc, .int .i64 xd]).length = m * 5 := by rw [length_splice _ _ _ (by show _ + 5 ≤ _; exact hfit), ZL]
            by_cases hkl : k < zs.length
            · have kl : (k : Int) < (zs.length : Int) := by omega
              have k5 : (k : Int) + 1 < (m : Int) := by have := HM.out; omega
              have k7 : (k : Int) + 1 ≤ (m : Int) := by omega
              have wk : IntKind.i64.wrap ((k : Int) + 1) = (k : Int) + 1 := IntWalk.i64_in _ (by omega)
              have tk : ((k : Int) + 1).toNat = k + 1 := by omega
              have n1 : ¬ m = k + 1 := by omega
              have n2 : ¬ zs.length = k := by omega
              have k6 : (0 : Int) ≤ (k : Int) + 1 := by omega
              have hmn : zs.length - k ≤ m - (k + 1) := by have := HM.out; omega
              have hft : (k + 1) * 5 + X2.length ≤ (splice (splice (zS m) 0 X1) (k * 5) [.string xs, .int .i64 xa, .int .i64 xb, .int .i64 xc, .int .i64 xd]).length := by rw [CL, L2]; have := HM.out; omega
              go_region_law (refine step_copyN (by rfl) (.tmp 52) (.tmp 55) 32 32 (by rfl) 26 5 Try.underlying32 info5 (by decide) (some ⟨w4.heap.size, (k + 1) * 5, none⟩) (some ⟨g, k * 5, none⟩) (m - (k + 1)) (m - (k + 1)) (zs.length - k) (zs.length - k) (by simp [Act.eval, Act.put]) (by simp [Act.eval, Act.put]) w4.heap.size ((k + 1) * 5) (splice (splice (zS m) 0 X1) (k * 5) [.string xs, .int .i64 xa, .int .i64 xb, .int .i64 xc, .int .i64 xd]) 26 HG7.out X2 (zs.length - k) (min_left5 hmn) L2 (fun _ => ⟨rfl, _, rfl, S2.out _ HB7.out⟩) hft P2.out w.heap.size w HB7.out hD ?_; intro w8 HG8 hb8)
              have HB8 := Lib.hid hb8
              clear hb8
              go_wp2_with fail
              go_ret2
              exact SPost.of (RES.out w8 w4.heap.size (zS m) hD (zS_len m) HG8.out) HB8.out
            · have hkl' : zs.length = k := by omega
              have hX2 : X2 = [] := List.length_eq_zero_iff.1 (by rw [L2]; omega)
              have P3 : ∀ u ∈ ([] : List Value), u.oneCell' = true := fun u hu => by cases hu
              have wk : IntKind.i64.wrap ((k : Int) + 1) = (k : Int) + 1 := IntWalk.i64_in _ (by omega)
              have tk : ((k : Int) + 1).toNat = k + 1 := by omega
              have n1 : m = k + 1 := by have := HM.out; omega
              have k7 : (k : Int) + 1 ≤ (m : Int) := by omega
              have k6 : (0 : Int) ≤ (k : Int) + 1 := by omega
              have hft : (k + 1) * 5 + ([] : List Value).length ≤ (splice (splice (zS m) 0 X1) (k * 5) [.string xs, .int .i64 xa, .int .i64 xb, .int .i64 xc, .int .i64 xd]).length := by rw [CL]; simp; omega
              rw [hX2] at RES
              go_region_law (refine step_copyN (by rfl) (.tmp 52) (.tmp 55) 32 32 (by rfl) 26 5 Try.underlying32 info5 (by decide) (some ⟨w4.heap.size, 0, none⟩) (some ⟨g, 0, none⟩) 0 0 0 0 (by simp [Act.eval, Act.put]) (by simp [Act.eval, Act.put]) w4.heap.size ((k + 1) * 5) (splice (splice (zS m) 0 X1) (k * 5) [.string xs, .int .i64 xa, .int .i64 xb, .int .i64 xc, .int .i64 xd]) 26 HG7.out [] 0 (by rfl) (by rfl) (fun h => absurd h (by decide)) hft P3 w.heap.size w HB7.out hD ?_; intro w8 HG8 hb8)
              have HB8 := Lib.hid hb8
              clear hb8
              go_wp2_with fail
              go_ret2
              have r := RES.out w8 w4.heap.size (zS m) hD (zS_len m) HG8.out
              rw [n1] at r
              exact SPost.of r HB8.out
end Go.Proofs.Ytfjhlapcopjfiaa
