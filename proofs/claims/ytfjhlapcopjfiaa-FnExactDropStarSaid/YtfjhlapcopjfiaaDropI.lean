/-
  DropStar (package impl): starPlaces, DropStar.
-/
import Derived.Test.YtfjhlapcopjfiaaDropS
import Derived.Test.YtfjhlapcopjfiaaCopy5
import Derived.Test.YtfjhlapcopjfiaaStarI
import Derived.IntWalk
namespace Go.Proofs.Ytfjhlapcopjfiaa
open Go.RowKit
set_option linter.unusedVariables false

set_option maxRecDepth 100000 in
set_option maxHeartbeats 2000000 in
theorem starPlaces_any (g cap : Nat) (zs : List StarV) (w : World) (hb : zs.length ≤ 1048577) (h1 : Row w g zs) (hd : ∀ i j, i < j → (hj : j < zs.length) → (zs.getD i star0).s ≠ (zs.getD j star0).s) :
    Calls Try.prog 65 #[.slice (some ⟨g, 0, none⟩) zs.length cap] w fun e w' => e = .returned (.map (some w.heap.size)) ∧ w'.heap[w.heap.size]? = some (.map (entsS zs zs.length) zs.length) ∧ Below w.heap.size w w' := by
  have H1 := Lib.hid h1
  have HD := Lib.hid hd
  clear h1 hd
  have hmm : (Instr.makeMap 89 (some (.int .i64 (zs.length : Int)))).run Try.prog w = .ok (.map (some w.heap.size)) (w.alloc (.map #[] 0)) := by simp [Instr.makeMap]; rfl
  have ES := Lib.hid (entsS_succ zs)
  have E0 : Hid (entsS zs 0 = #[]) := Lib.hid rfl
  have FN := Lib.hid (fun j s h => find_new (zs := zs) (j := j) (s := s) h)
  generalize entsS zs = E at *
  go_enter Try.func65, Try.ntmps65
  go_wp2_with fail
  clear hmm
  have hnew : (w.alloc (.map #[] 0)).heap[w.heap.size]? = some (.map #[] 0) := heap_alloc_new w _
  go_loopg [11] (zs.length + 1) (fun kx s11 wr => ∃ (j : Nat), s11 = .int .i64 (j : Int) ∧ j ≤ zs.length ∧ kx = zs.length + 1 - j ∧ Hid (wr.heap[w.heap.size]? = some (.map (E j) j)) ∧ Hid (Below w.heap.size w wr))
  case atStart => exact ⟨0, rfl, Nat.zero_le _, rfl, Lib.hid (by rw [E0.out]; exact hnew), Lib.hid ((Below.refl _ w).alloc (Nat.le_refl _) _)⟩
  case round =>
    obtain ⟨j, rfl, hj, rfl, HM, HB⟩ := hrel
    clear hnew
    by_cases hlt : j < zs.length
    · have j0 : (0 : Int) ≤ (j : Int) := by omega
      have j1 : (j : Int) < (zs.length : Int) := by omega
      obtain ⟨c0, c1, c2, c3, c4⟩ := (H1.out.below HB.out).at j hlt
      have FJ := Lib.hid (FN.out j zs[j].s (fun i hi => by
        have := HD.out i j hi hlt
        rw [getD_at zs j hlt] at this
        exact this))
      have ESj := ES.out j
      rw [getD_at zs j hlt] at ESj
      generalize E j = es at *
      generalize zs[j] = x at *
      obtain ⟨xs, xa, xb, xc, xd⟩ := x
      simp only at c0 c1 c2 c3 c4 FJ ESj
      have hmlt : w.heap.size < wr.heap.size := (Array.getElem?_eq_some_iff.1 HM.out).1
      have hm2 : (wr.alloc (Obj.cells #[.string xs, .int .i64 xa, .int .i64 xb, .int .i64 xc, .int .i64 xd] 26)).heap[w.heap.size]? = some (.map es j) := (((Below.refl wr.heap.size wr).alloc (Nat.le_refl _) _).block _ hmlt).trans HM.out
      have hb2 : Below w.heap.size w (wr.alloc (Obj.cells #[.string xs, .int .i64 xa, .int .i64 xb, .int .i64 xc, .int .i64 xd] 26)) := HB.out.alloc HB.out.size _
      go_wp2_with (at_mapUpdate; refine wpList_put_name _ rfl _ _ _ 89 9 3 rfl Try.underlying89 Try.underlying9 w.heap.size es j rfl hm2 xs _ rfl rfl FJ.out ?_; intro w3 hm3 hg3)
      have HM3 : Hid (w3.heap[w.heap.size]? = some (.map (E (j + 1)) (j + 1))) := Lib.hid (by rw [ESj]; exact hm3)
      have HB3 := Lib.hid (hb2.grown hg3 hb2.size (fun kk hk => by cases hk; exact Nat.le_refl _))
      clear hm3 hg3 hm2 hb2 c0 c1 c2 c3 c4 ESj
      go_wp2_with fail
      go_roundg (zs.length + 1 - (j + 1))
      case measure => omega
      case rel => exact ⟨j + 1, by go_num, by omega, by omega, HM3, HB3⟩
    · obtain rfl : j = zs.length := by omega
      go_wp2_with fail
      go_ret
      exact ⟨rfl, HM.out, HB.out⟩

theorem splice2 {α : Type} (Z X1 X2 : List α) (k : Nat) (hk : X1.length = k) (hZ : Z.length = k + X2.length) : splice (splice Z 0 X1) k X2 = X1 ++ X2 := by
  subst hk
  unfold splice
  have e1 : Z.take 0 ++ (X1 ++ Z.drop (0 + X1.length)) = X1 ++ Z.drop X1.length := by simp
  have e3 : (Z.drop X1.length).drop X2.length = [] := List.drop_eq_nil_of_le (by rw [List.length_drop]; omega)
  rw [e1, List.take_left, List.drop_length_add_append, e3, List.append_nil]
/-- What make lays. -/
def zS (m : Nat) : List Value := (madeCells #[.string ByteArray.empty, .int .i64 0, .int .i64 0, .int .i64 0, .int .i64 0] (m * 5)).toList
theorem zS_len (m : Nat) : (zS m).length = m * 5 := by unfold zS; rw [Array.length_toList, size_madeCells]
theorem made_heap (w : World) (m : Nat) : (w.alloc (.cells (madeCells #[.string ByteArray.empty, .int .i64 0, .int .i64 0, .int .i64 0, .int .i64 0] (m * 5)) 26)).heap[w.heap.size]? = some (.cells (zS m).toArray 26 (0, 0)) := by
  unfold zS
  rw [Array.toArray_toList]
  exact heap_alloc_new w _
theorem min_left5 {k m : Nat} (h : k ≤ m) : Nat.min k m = k := Nat.min_eq_left h
theorem info5 : (Try.prog.info? 26).map (·.size) = some 5 := by kernel_rfl

set_option maxRecDepth 100000 in
set_option maxHeartbeats 8000000 in
theorem implDrop_any (g : Nat) (zs : List StarV) (s : ByteArray) (w : World) (hb : zs.length ≤ 1048577) (h1 : Row w g zs) (hok : ∀ j, (h : j < zs.length) → zs[j].ok) :
    Calls Try.prog 24 #[.slice (some ⟨g, 0, none⟩) zs.length zs.length, .string s] w (SPost (dropV zs s) w) := by
  have V := Lib.hid (validStars_any g zs.length zs w hb h1 hok)
  have H1 := Lib.hid h1
  clear h1 hok
  unfold dropV
  cases ho : okL zs with
  | false =>
    rw [if_neg (by simp)]
    rw [ho] at V
    clear ho
    go_enter Try.func24, Try.ntmps24
    go_wp2_with fail
    refine V.out.mono ?_
    rintro e w1 ⟨rfl, hb1⟩
    have HB1 := Lib.hid hb1
    clear hb1
    go_wp2_with fail
    go_ret2
    exact ⟨_, rfl, SOwn.nil _ _, HB1.out⟩
  | true =>
    rw [if_pos rfl]
    rw [ho] at V
    have hz24 := okL_lenD ho
    have hne : ∀ i j, i < j → (hj : j < zs.length) → (zs.getD i star0).s ≠ (zs.getD j star0).s := fun i j hij hj => by
      rw [getD_at zs i (by omega), getD_at zs j hj]
      exact okL_names ho i j hij hj
    have P := Lib.hid (fun (W : World) (hB : Below w.heap.size w W) => starPlaces_any g zs.length zs W hb (H1.out.below hB) hne)
    clear ho
    by_cases hf : fndS zs s < zs.length
    · rw [if_pos hf]
      have hs := fndS_is hf
      have FA : Instr.findNow .string (.string s) (entsS zs zs.length).toList 0 = some (some (fndS zs s, .int .i64 (fndS zs s : Int))) := find_at _ hf (by rw [getD_at zs _ hf]; exact hs) (fun i hi hne2 e => by
        rcases Nat.lt_or_gt_of_ne hne2 with c | c
        · exact hne i _ c hf (by rw [e, getD_at zs _ hf]; exact hs.symm)
        · exact hne _ i c hi (by rw [e, getD_at zs _ hf]; exact hs))
      have HFA := Lib.hid FA
      clear FA hs hne
      generalize fndS zs s = k at *
      obtain ⟨m, hm⟩ : ∃ m : Nat, m = zs.length - 1 := ⟨_, rfl⟩
      have hmi : ((zs.length : Int) - 1) = (m : Int) := by omega
      have hmk : ∀ w, (Instr.makeSlice 32 (.int .i64 ((zs.length : Int) - 1)) (.int .i64 ((zs.length : Int) - 1))).run Try.prog w = .ok (.slice (some ⟨w.heap.size, 0, none⟩) m m) (w.alloc (.cells (madeCells #[.string ByteArray.empty, .int .i64 0, .int .i64 0, .int .i64 0, .int .i64 0] (m * 5)) 26)) := fun w => by
        rw [hmi]
        exact star_make m (by omega) w
      have L1 : (flatS (zs.take k)).length = k * 5 := by rw [flatS_len, List.length_take]; omega
      have L2 : (flatS (zs.drop (k + 1))).length = (zs.length - (k + 1)) * 5 := by rw [flatS_len, List.length_drop]
      have P1 := Lib.hid (flatS_one (zs.take k))
      have P2 := Lib.hid (flatS_one (zs.drop (k + 1)))
      have S1 : Hid (∀ W, Below w.heap.size w W → ∀ j u, (flatS (zs.take k))[j]? = some u → W.cell? ((⟨g, 0, none⟩ : Addr).add j) = some u) := Lib.hid (fun W hB j u hj => by
        rw [flatS_take] at hj
        refine (H1.out.below hB).src 0 j u ?_
        rw [List.drop_zero]
        rw [List.getElem?_take] at hj
        split at hj
        · exact hj
        · cases hj)
      have S2 : Hid (∀ W, Below w.heap.size w W → ∀ j u, (flatS (zs.drop (k + 1)))[j]? = some u → W.cell? ((⟨g, (k + 1) * 5, none⟩ : Addr).add j) = some u) := Lib.hid (fun W hB j u hj => by
        rw [flatS_drop] at hj
        exact (H1.out.below hB).src ((k + 1) * 5) j u hj)
      have RES : Hid (∀ W D Z, w.heap.size ≤ D → Z.length = m * 5 → W.heap[D]? = some (.cells (splice (splice Z 0 (flatS (zs.take k))) (k * 5) (flatS (zs.drop (k + 1)))).toArray 26 (0, 0)) → SOwn W w.heap.size (.slice (some ⟨D, 0, none⟩) m m) (zs.take k ++ zs.drop (k + 1))) := Lib.hid (fun W D Z hD hZ h => by
        rw [splice2 Z _ _ _ L1 (by rw [hZ, L2]; omega)] at h
        unfold SOwn
        have hl : (zs.take k ++ zs.drop (k + 1)).length = m := by
          rw [List.length_append, List.length_take, List.length_drop]
          omega
        rw [flatS_app, hl]
        exact ⟨by rw [List.length_append, L1, L2]; omega, Or.inr ⟨D, m, _, rfl, hD, h, Nat.le_refl _, by unfold maxLen; omega, by rw [List.size_toArray, List.length_append, L1, L2]; omega, by
          rw [List.take_of_length_le (by rw [List.length_append, L1, L2]; omega)]⟩⟩)
      generalize zs.take k ++ zs.drop (k + 1) = R at *
      generalize flatS (zs.take k) = X1 at *
      generalize flatS (zs.drop (k + 1)) = X2 at *
      have HM := Lib.hid hm
      have k0 : (0 : Int) ≤ (k : Int) := by omega
      have k1 : (k : Int) ≤ (zs.length : Int) := by omega
      have k2 : (k : Int) + 1 ≤ (zs.length : Int) := by omega
      have k3 : (k : Int) ≤ (m : Int) := by omega
      clear hm hmi
      go_enter Try.func24, Try.ntmps24
      go_wp2_with fail
      refine V.out.mono ?_
      rintro e w1 ⟨rfl, hb1⟩
      have HB1 := Lib.hid hb1
      clear hb1
      go_wp2_with fail
      refine (P.out _ HB1.out).mono ?_
      rintro e w2 ⟨rfl, hmap, hb2⟩
      have HB2 := Lib.hid (HB1.out.trans (hb2.mono HB1.out.size))
      have LK := look_name 89 9 3 Try.underlying89 Try.underlying9 w2 w1.heap.size _ _ hmap s _ _ HFA.out
      have hD : w.heap.size ≤ w2.heap.size := HB2.out.size
      have HB3 : Hid (Below w.heap.size w (w2.alloc (.cells (madeCells #[.string ByteArray.empty, .int .i64 0, .int .i64 0, .int .i64 0, .int .i64 0] (m * 5)) 26))) := Lib.hid (HB2.out.alloc HB2.out.size _)
      clear hb2
      go_wp2_with (refine wpList_copyN rfl (.tmp 25) (.tmp 28) 32 32 rfl 26 5 Try.underlying32 info5 (by decide) _ _ _ _ _ _ rfl rfl w2.heap.size 0 (zS m) 26 (made_heap w2 m) X1 k (min_left5 (by omega)) L1 (fun _ => ⟨rfl, _, rfl, S1.out _ HB3.out⟩) (by rw [L1, zS_len]; omega) P1.out w.heap.size w HB3.out hD ?_; intro w4 HG4 hb4)
      have HB4 : Hid (Below w.heap.size w w4.drew) := Lib.hid (hb4.trans ⟨rfl, rfl, rfl, Nat.le_refl _, fun _ _ => rfl⟩)
      have HG5 : Hid (w4.drew.heap[w2.heap.size]? = some (.cells (splice (zS m) 0 X1).toArray 26 (0, 0))) := Lib.hid HG4.out
      have ZL : (splice (zS m) 0 X1).length = m * 5 := by rw [length_splice _ _ _ (by rw [L1, zS_len]; omega), zS_len]
      clear hb4 HG4 hmap LK hmk
      by_cases hkm : k < m
      · have k4 : (k : Int) < (m : Int) := by omega
        have k5 : (k : Int) + 1 < (zs.length : Int) := by have := HM.out; omega
        have wk : IntKind.i64.wrap ((k : Int) + 1) = (k : Int) + 1 := IntWalk.i64_in _ (by omega)
        have tk : ((k : Int) + 1).toNat = k + 1 := by omega
        have n1 : ¬ m = k := by omega
        have n2 : ¬ zs.length = k + 1 := by omega
        have k6 : (0 : Int) ≤ (k : Int) + 1 := by omega
        go_region_law (refine step_copyN (by rfl) (.tmp 32) (.tmp 36) 32 32 (by rfl) 26 5 Try.underlying32 info5 (by decide) (some ⟨w2.heap.size, k * 5, none⟩) (some ⟨g, (k + 1) * 5, none⟩) (m - k) (m - k) (zs.length - (k + 1)) (zs.length - (k + 1)) (by simp [Act.eval, Act.put]) (by simp [Act.eval, Act.put]) w2.heap.size (k * 5) (splice (zS m) 0 X1) 26 HG5.out X2 (zs.length - (k + 1)) (min_left5 (by have := HM.out; omega)) L2 (fun _ => ⟨rfl, _, rfl, S2.out _ HB4.out⟩) (by rw [ZL, L2]; have := HM.out; omega) P2.out w.heap.size w HB4.out hD ?_; intro w5 HG6 hb5)
        have HB5 := Lib.hid hb5
        clear hb5
        go_wp2_with fail
        go_ret2
        exact SPost.of (RES.out w5 w2.heap.size (zS m) hD (zS_len m) HG6.out) HB5.out
      · obtain rfl : m = k := by have := HM.out; omega
        have n2 : zs.length = m + 1 := by have := HM.out; omega
        have hX2 : X2 = [] := List.length_eq_zero_iff.1 (by rw [L2]; omega)
        subst hX2
        have wk : IntKind.i64.wrap ((m : Int) + 1) = (m : Int) + 1 := IntWalk.i64_in _ (by omega)
        have tk : ((m : Int) + 1).toNat = m + 1 := by omega
        have k6 : (0 : Int) ≤ (m : Int) + 1 := by omega
        have P3 : ∀ u ∈ ([] : List Value), u.oneCell' = true := fun u hu => by cases hu
        go_region_law (refine step_copyN (by rfl) (.tmp 32) (.tmp 36) 32 32 (by rfl) 26 5 Try.underlying32 info5 (by decide) (some ⟨w2.heap.size, 0, none⟩) (some ⟨g, 0, none⟩) 0 0 0 0 (by simp [Act.eval, Act.put]) (by simp [Act.eval, Act.put]) w2.heap.size (m * 5) (splice (zS m) 0 X1) 26 HG5.out [] 0 (by rfl) (by rfl) (fun h => absurd h (by decide)) (by rw [ZL]; simp) P3 w.heap.size w HB4.out hD ?_; intro w5 HG6 hb5)
        have HB5 := Lib.hid hb5
        clear hb5
        go_wp2_with fail
        go_ret2
        exact SPost.of (RES.out w5 w2.heap.size (zS m) hD (zS_len m) HG6.out) HB5.out
    · rw [if_neg hf]
      have FA : Instr.findNow .string (.string s) (entsS zs zs.length).toList 0 = some none := find_new (fun i hi => by
        rw [getD_at zs i hi]
        exact fndS_not hf i hi)
      have HFA := Lib.hid FA
      have zi : ∀ w, (zeroValue 3).run Try.prog w = .ok (.int .i64 0) w := fun w => by kernel_rfl
      clear FA hf hne
      go_enter Try.func24, Try.ntmps24
      go_wp2_with fail
      refine V.out.mono ?_
      rintro e w1 ⟨rfl, hb1⟩
      have HB1 := Lib.hid hb1
      clear hb1
      go_wp2_with fail
      refine (P.out _ HB1.out).mono ?_
      rintro e w2 ⟨rfl, hmap, hb2⟩
      have HB2 := Lib.hid (HB1.out.trans (hb2.mono HB1.out.size))
      have LK := look_no_name 89 9 3 Try.underlying89 Try.underlying9 w2 _ (zi w2) w1.heap.size _ _ hmap s HFA.out
      clear hb2
      go_wp2_with fail
      go_ret2
      exact ⟨_, rfl, SOwn.nil _ _, HB2.out⟩
end Go.Proofs.Ytfjhlapcopjfiaa
