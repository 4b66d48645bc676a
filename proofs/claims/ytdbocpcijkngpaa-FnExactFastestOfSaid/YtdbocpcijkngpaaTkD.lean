/-
  A track without a key, DropKey (both packages).
-/
import Derived.Test.YtdbocpcijkngpaaTkS
import Derived.Test.YtdbocpcijkngpaaCpN
import Derived.Deep.RegionLaw
namespace Go.Proofs.Ytdbocpcijkngpaa.Tk
open Go.RowKit
open Ky (V In Own Row At gk)
set_option linter.unusedVariables false

theorem add_pl (g o j : Nat) : ((⟨g, o, none⟩ : Addr).add j) = ⟨g, o + j, none⟩ := by unfold Addr.add; split <;> simp_all
theorem src_take {W : World} {g : Nat} {zs : List V} (h : Row W g zs) (k : Nat) : ∀ j u, (Ky.flat (zs.take k))[j]? = some u → W.cell? ((⟨g, 0, none⟩ : Addr).add j) = some u := fun j u hj => by
  rw [Ky.flat_take, List.getElem?_take] at hj
  split at hj
  · exact Ky.Row.src h j u hj
  · cases hj
theorem src_drop {W : World} {g : Nat} {zs : List V} (h : Row W g zs) (k : Nat) : ∀ j u, (Ky.flat (zs.drop k))[j]? = some u → W.cell? ((⟨g, k * 2, none⟩ : Addr).add j) = some u := fun j u hj => by
  rw [Ky.flat_drop, List.getElem?_drop] at hj
  have := Ky.Row.src h (k * 2 + j) u hj
  rw [add_pl] at this ⊢
  simpa using this
def zK (m : Nat) : List Value := (madeCells #[.int .i64 0, .int .i64 0] (m * 2)).toList
theorem zK_len (m : Nat) : (zK m).length = m * 2 := by unfold zK; rw [Array.length_toList, size_madeCells]
theorem made_heapK (w : World) (m : Nat) : (w.alloc (.cells (madeCells #[.int .i64 0, .int .i64 0] (m * 2)) 48)).heap[w.heap.size]? = some (.cells (zK m).toArray 48 (0, 0)) := by
  unfold zK
  rw [Array.toArray_toList]
  exact heap_alloc_new w _
theorem info2 : (Try.prog.info? 48).map (·.size) = some 2 := by kernel_rfl
theorem Mod.of_bel {B C : Nat} {W W' : World} (h : Below B W W') (hC : W.heap.size ≤ C) : Mod B C W W' := ⟨h.os, h.tape, h.output, h.size, fun k hk hc => h.block k (by omega)⟩
/-- The keys without one. -/
def woL (zs : List V) (k : Nat) : List V := zs.take k ++ zs.drop (k + 1)
theorem woL_len (zs : List V) (k : Nat) (h : k < zs.length) : (woL zs k).length = zs.length - 1 := by
  unfold woL
  rw [List.length_append, List.length_take, List.length_drop]
  omega
theorem ownK {W : World} {B D m : Nat} {L : List V} (hB : B ≤ D) (hl : L.length = m) (hm : m ≤ maxLen) (h : W.heap[D]? = some (.cells (Ky.flat L).toArray 48 (0, 0))) : Own W B W.heap.size (.slice (some ⟨D, 0, none⟩) m m) L := by
  subst hl
  have hf := Ky.flat_len L
  exact Ky.Own.mk ⟨hf, Or.inr ⟨D, L.length, _, rfl, hB, h, Nat.le_refl _, hm, by rw [List.size_toArray, hf], by rw [List.take_of_length_le (by rw [hf]; omega)]⟩⟩

theorem ownBlk {W : World} {B C D m c : Nat} {L : List V} (h : Own W B C (.slice (some ⟨D, 0, none⟩) m c) L) : Own W D (D + 1) (.slice (some ⟨D, 0, none⟩) m c) L := by
  obtain ⟨h0, h1⟩ := h
  refine ⟨⟨h0.1, ?_⟩, fun b hb => by simp only [Value.ownBlock] at hb; injection hb with hb; omega⟩
  rcases h0.2 with ⟨e, _⟩ | ⟨g', cap', cur, hv, hb, rest⟩
  · cases e
  · refine Or.inr ⟨g', cap', cur, hv, ?_, rest⟩
    injection hv with e1 _ _
    injection e1 with e1
    injection e1 with e1
    omega
set_option maxRecDepth 100000 in
set_option maxHeartbeats 8000000 in
theorem withoutKey_any (s : ByteArray) (g : Nat) (zs : List V) (k : Nat) (w : World) (hz : zs.length ≤ 24) (hk : k < zs.length) (h1 : Row w g zs) :
    Calls Try.prog 77 #[.agg #[.string s, .slice (some ⟨g, 0, none⟩) zs.length zs.length], .int .i64 (k : Int)] w fun e w' => ∃ h, e = .returned (.agg #[.string s, .slice (some ⟨h, 0, none⟩) (zs.length - 1) (zs.length - 1)]) ∧ Own w' w.heap.size w'.heap.size (.slice (some ⟨h, 0, none⟩) (zs.length - 1) (zs.length - 1)) (woL zs k) ∧ Below w.heap.size w w' := by
  obtain ⟨W0, hW0⟩ : ∃ W, W = (w.alloc (Obj.cells #[Value.string s, Value.slice (some ⟨g, 0, none⟩) zs.length zs.length] 29)).alloc (Obj.cells #[Value.string { data := #[] }, Value.slice none 0 0] 29) := ⟨_, rfl⟩
  have F0 : Fr 1 w.heap.size w.heap.size w W0 s (.slice (some ⟨g, 0, none⟩) zs.length zs.length) := by rw [hW0]; exact fr_new _ _ _ _ _ (Nat.le_refl _)
  have hs0 : W0.heap.size = w.heap.size + 1 + 1 := by rw [hW0]; simp
  have H1 := Lib.hid (h1.below F0.bel)
  obtain ⟨m, hm⟩ : ∃ m : Nat, m = zs.length - 1 := ⟨_, rfl⟩
  have hmi : ((zs.length : Int) - 1) = (m : Int) := by omega
  have hmk : ∀ w, (Instr.makeSlice 27 (.int .i64 (m : Int)) (.int .i64 (m : Int))).run Try.prog w = .ok (.slice (some ⟨w.heap.size, 0, none⟩) m m) (w.alloc (.cells (madeCells #[.int .i64 0, .int .i64 0] (m * 2)) 48)) := fun w => Ky.makes m (by omega) w
  have L1 : (Ky.flat (zs.take k)).length = k * 2 := by rw [Ky.flat_len, List.length_take]; omega
  have L2 : (Ky.flat (zs.drop (k + 1))).length = (zs.length - (k + 1)) * 2 := by rw [Ky.flat_len, List.length_drop]
  have P1 := Lib.hid (Ky.flat_one (zs.take k))
  have P2 := Lib.hid (Ky.flat_one (zs.drop (k + 1)))
  have S1 : Hid (∀ W, Below W0.heap.size W0 W → ∀ j u, (Ky.flat (zs.take k))[j]? = some u → W.cell? ((⟨g, 0, none⟩ : Addr).add j) = some u) := Lib.hid (fun W hB => src_take (H1.out.below hB) k)
  have S2 : Hid (∀ W, Below W0.heap.size W0 W → ∀ j u, (Ky.flat (zs.drop (k + 1)))[j]? = some u → W.cell? ((⟨g, (k + 1) * 2, none⟩ : Addr).add j) = some u) := Lib.hid (fun W hB => src_drop (H1.out.below hB) (k + 1))
  have RES : Hid (∀ (W : World) D Z, w.heap.size ≤ D → Z.length = m * 2 → W.heap[D]? = some (.cells (splice (splice Z 0 (Ky.flat (zs.take k))) (k * 2) (Ky.flat (zs.drop (k + 1)))).toArray 48 (0, 0)) → Own W w.heap.size W.heap.size (.slice (some ⟨D, 0, none⟩) m m) (woL zs k)) := Lib.hid (fun W D Z hD hZ h => by
    rw [splice2 Z _ _ _ L1 (by rw [hZ, L2]; omega), ← Ky.flat_app] at h
    exact ownK hD (by rw [woL_len zs k hk]; exact hm.symm) (by unfold maxLen; omega) h)
  have HF0 := Lib.hid F0
  obtain ⟨m0, m1⟩ := F0.t
  have HW := Lib.hid hW0
  clear h1 hW0 F0
  rw [← hm]
  have RL : (woL zs k).length = m := by rw [woL_len zs k hk]; exact hm.symm
  obtain ⟨RW, hRW⟩ : ∃ R, R = woL zs k := ⟨_, rfl⟩
  rw [← hRW] at RES RL ⊢
  have HRL := Lib.hid RL
  clear RL
  clear hRW
  generalize Ky.flat (zs.take k) = X1 at *
  generalize Ky.flat (zs.drop (k + 1)) = X2 at *
  have HM := Lib.hid hm
  have k0 : (0 : Int) ≤ (k : Int) := by omega
  have k1 : (k : Int) ≤ (zs.length : Int) := by omega
  have k2 : (k : Int) + 1 ≤ (zs.length : Int) := by omega
  have k3 : (k : Int) ≤ (m : Int) := by omega
  have km : ((zs.length - 1 : Nat) : Int) = (m : Int) := by omega
  clear hm
  have hD : w.heap.size + 1 < W0.heap.size := HF0.out.hs
  obtain ⟨W3, hW3⟩ : ∃ W, W = W0.alloc (.cells (madeCells #[.int .i64 0, .int .i64 0] (m * 2)) 48) := ⟨_, rfl⟩
  have HG3 : Hid (W3.heap[w.heap.size + 1 + 1]? = some (.cells (zK m).toArray 48 (0, 0))) := Lib.hid (by rw [hW3, ← hs0]; exact made_heapK W0 m)
  have hb3 : Below W0.heap.size W0 W3 := by rw [hW3]; exact (Below.refl _ _).alloc (Nat.le_refl _) _
  have F3 := HF0.out.below hb3
  have HB3 := Lib.hid hb3
  have HF3 := Lib.hid F3
  obtain ⟨n0, n1⟩ := F3.t
  subst hW3
  clear hb3 F3 HF0
  go_enter Try.func77, Try.ntmps77
  go_wp2_with (rw [← HW.out]; refine wpList_copyN (by rfl) (.tmp 11) (.tmp 15) 27 27 (by rfl) 48 2 Try.underlying27 info2 (by decide) _ _ _ _ _ _ (by rfl) (by rfl) (w.heap.size + 1 + 1) 0 (zK m) 48 HG3.out X1 k (min_left5 (by omega)) L1 (fun _ => ⟨rfl, _, rfl, S1.out _ HB3.out⟩) (by rw [L1, zK_len]; omega) P1.out W0.heap.size _ (Below.refl _ _) (by omega) ?_; intro w4 HG4 hb4)
  clear HW hmk m0 m1
  have hb5 : Below W0.heap.size (W0.alloc (.cells (madeCells #[.int .i64 0, .int .i64 0] (m * 2)) 48)) w4.drew := hb4.trans ⟨rfl, rfl, rfl, Nat.le_refl _, fun _ _ => rfl⟩
  have HB5 := Lib.hid hb5
  have HB05 := Lib.hid (HB3.out.trans hb5)
  have F5 := HF3.out.mod (Mod.of_bel hb5 (Nat.le_refl _)) (Or.inl hD)
  obtain ⟨p0, p1⟩ := F5.t
  have HF5 := Lib.hid F5
  have HG5 : Hid (w4.drew.heap[w.heap.size + 1 + 1]? = some (.cells (splice (zK m) 0 X1).toArray 48 (0, 0))) := Lib.hid HG4.out
  have ZL : (splice (zK m) 0 X1).length = m * 2 := by rw [length_splice _ _ _ (by rw [L1, zK_len]; omega), zK_len]
  clear hb4 HG4 hb5 F5 n0 n1
  by_cases hkm : k < m
  · have k4 : (k : Int) < (m : Int) := by omega
    have k5 : (k : Int) + 1 < (zs.length : Int) := by have := HM.out; omega
    have wk : IntKind.i64.wrap ((k : Int) + 1) = (k : Int) + 1 := IntWalk.i64_in _ (by omega)
    have tk : ((k : Int) + 1).toNat = k + 1 := by omega
    have n1 : ¬ m = k := by omega
    have n2 : ¬ zs.length = k + 1 := by omega
    have k6 : (0 : Int) ≤ (k : Int) + 1 := by omega
    go_region_law (refine step_copyN (by rfl) (.tmp 19) (.tmp 24) 27 27 (by rfl) 48 2 Try.underlying27 info2 (by decide) (some ⟨w.heap.size + 1 + 1, k * 2, none⟩) (some ⟨g, (k + 1) * 2, none⟩) (m - k) (m - k) (zs.length - (k + 1)) (zs.length - (k + 1)) (by simp [Act.eval, Act.put]) (by simp [Act.eval, Act.put]) (w.heap.size + 1 + 1) (k * 2) (splice (zK m) 0 X1) 48 HG5.out X2 (zs.length - (k + 1)) (min_left5 (by have := HM.out; omega)) L2 (fun _ => ⟨rfl, _, rfl, S2.out _ HB05.out⟩) (by rw [ZL, L2]; have := HM.out; omega) P2.out W0.heap.size w4.drew (Below.refl _ _) (by omega) ?_; intro w5 HG6 hb6)
    have hfr := HF5.out.mod (Mod.of_bel hb6 (Nat.le_refl _)) (Or.inl hD)
    have HB1 := Lib.hid hfr.bel
    have hs5 := hb6.size
    have HO := RES.out w5 (w.heap.size + 1 + 1) (zK m) (by omega) (zK_len m) HG6.out
    have hlt5 := HO.bd.2.2.1
    have HO5 := Lib.hid HO
    obtain ⟨p0, p1⟩ := hfr.t
    have r0 := hfr.r0
    have r1 := hfr.r1
    have f0 := hfr.f0
    have f1 := hfr.f1
    clear hfr hb6 HO
    go_wp2_with fail
    have RL := HRL.out
    refine bodyPost_ret (v := .agg #[.string s, .slice (some ⟨w.heap.size + 1 + 1, 0, none⟩) m m]) (by simp [results, Try.results77, go_sem, r0, r1, RL]) rfl ⟨_, rfl, ?_, ?_⟩
    · obtain ⟨hE, hF⟩ := HO5.out
      refine Ky.Own.le (B' := w.heap.size + 1 + 1) (C' := w.heap.size + 1 + 1 + 1) (Ky.Own.mod (ownBlk HO5.out) (B' := w.heap.size + 1) (C' := w.heap.size + 2) ?_ (Or.inr (by omega))) (by omega) (by simp; omega)
      repeat (first | exact Mod.refl _ _ _ | refine Mod.setCell ?_ (by omega) (by omega) _)
    ·
      repeat (first | exact Below.refl _ _ | exact HB1.out | refine Below.setCell ?_ (by first | (simp; done) | omega | (simp; omega)) _ | refine Below.alloc ?_ (by first | (simp; done) | omega | (simp; omega)) _ | refine bel_drew ?_)
  · obtain rfl : m = k := by have := HM.out; omega
    have n2 : zs.length = m + 1 := by have := HM.out; omega
    have hX2 : X2 = [] := List.length_eq_zero_iff.1 (by rw [L2]; omega)
    subst hX2
    have wk : IntKind.i64.wrap ((m : Int) + 1) = (m : Int) + 1 := IntWalk.i64_in _ (by omega)
    have tk : ((m : Int) + 1).toNat = m + 1 := by omega
    have k6 : (0 : Int) ≤ (m : Int) + 1 := by omega
    have P3 : ∀ u ∈ ([] : List Value), u.oneCell' = true := fun u hu => by cases hu
    go_region_law (refine step_copyN (by rfl) (.tmp 19) (.tmp 24) 27 27 (by rfl) 48 2 Try.underlying27 info2 (by decide) (some ⟨w.heap.size + 1 + 1, 0, none⟩) (some ⟨g, 0, none⟩) 0 0 0 0 (by simp [Act.eval, Act.put]) (by simp [Act.eval, Act.put]) (w.heap.size + 1 + 1) (m * 2) (splice (zK m) 0 X1) 48 HG5.out [] 0 (by rfl) (by rfl) (fun h => absurd h (by decide)) (by rw [ZL]; simp) P3 W0.heap.size w4.drew (Below.refl _ _) (by omega) ?_; intro w5 HG6 hb6)
    have hfr := HF5.out.mod (Mod.of_bel hb6 (Nat.le_refl _)) (Or.inl hD)
    have HB1 := Lib.hid hfr.bel
    have hs5 := hb6.size
    have HO := RES.out w5 (w.heap.size + 1 + 1) (zK m) (by omega) (zK_len m) HG6.out
    have hlt5 := HO.bd.2.2.1
    have HO5 := Lib.hid HO
    obtain ⟨p0, p1⟩ := hfr.t
    have r0 := hfr.r0
    have r1 := hfr.r1
    have f0 := hfr.f0
    have f1 := hfr.f1
    clear hfr hb6 HO
    go_wp2_with fail
    have RL := HRL.out
    refine bodyPost_ret (v := .agg #[.string s, .slice (some ⟨w.heap.size + 1 + 1, 0, none⟩) m m]) (by simp [results, Try.results77, go_sem, r0, r1, RL]) rfl ⟨_, rfl, ?_, ?_⟩
    · obtain ⟨hE, hF⟩ := HO5.out
      refine Ky.Own.le (B' := w.heap.size + 1 + 1) (C' := w.heap.size + 1 + 1 + 1) (Ky.Own.mod (ownBlk HO5.out) (B' := w.heap.size + 1) (C' := w.heap.size + 2) ?_ (Or.inr (by omega))) (by omega) (by simp; omega)
      repeat (first | exact Mod.refl _ _ _ | refine Mod.setCell ?_ (by omega) (by omega) _)
    ·
      repeat (first | exact Below.refl _ _ | exact HB1.out | refine Below.setCell ?_ (by first | (simp; done) | omega | (simp; omega)) _ | refine Below.alloc ?_ (by first | (simp; done) | omega | (simp; omega)) _ | refine bel_drew ?_)
end Go.Proofs.Ytdbocpcijkngpaa.Tk
