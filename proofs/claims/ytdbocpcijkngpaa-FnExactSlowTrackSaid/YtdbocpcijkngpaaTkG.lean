/-
  SlowTrack: mathematics, and package impl.
-/
import Derived.Test.YtdbocpcijkngpaaTkC
namespace Go.Proofs.Ytdbocpcijkngpaa.Tk
open Go.RowKit
open Ky (V In Own Row At gk)
set_option linter.unusedVariables false

def mxI (a b : Int) : Int := if a < b then b else a
/-- The new times. -/
def slT (zs : List V) (v : Int) : Nat → Int
  | 0 => (gk zs 0).f0
  | j + 1 => slT zs v j + mxI ((gk zs (j + 1)).f0 - (gk zs j).f0) (upQ (sz ((gk zs (j + 1)).f1 - (gk zs j).f1) * 1000) v)
theorem slT_next (zs : List V) (v : Int) (j : Nat) : slT zs v (j + 1) = slT zs v j + mxI ((gk zs (j + 1)).f0 - (gk zs j).f0) (upQ (sz ((gk zs (j + 1)).f1 - (gk zs j).f1) * 1000) v) := rfl
theorem stepI_bd {zs : List V} (h : Trk zs) {v : Int} (hv : 1 ≤ v) (j : Nat) (hj : j + 1 < zs.length) : (0 ≤ upQ (sz ((gk zs (j + 1)).f1 - (gk zs j).f1) * 1000) v ∧ upQ (sz ((gk zs (j + 1)).f1 - (gk zs j).f1) * 1000) v ≤ 2000000000) ∧ 0 ≤ mxI ((gk zs (j + 1)).f0 - (gk zs j).f0) (upQ (sz ((gk zs (j + 1)).f1 - (gk zs j).f1) * 1000) v) ∧ mxI ((gk zs (j + 1)).f0 - (gk zs j).f0) (upQ (sz ((gk zs (j + 1)).f1 - (gk zs j).f1) * 1000) v) ≤ 2000000000 := by
  have h1 := h.i j (by omega)
  have h2 := h.i (j + 1) hj
  have h3 := h.s j hj
  have s0 := sz_nonneg ((gk zs (j + 1)).f1 - (gk zs j).f1)
  have s1 := sz_le ((gk zs (j + 1)).f1 - (gk zs j).f1) 2000000 (by omega) (by omega)
  have u := upQ_bd (sz ((gk zs (j + 1)).f1 - (gk zs j).f1) * 1000) v 2000000000 (by omega) (by omega) hv
  refine ⟨u, ?_⟩
  unfold mxI
  split <;> omega
theorem slT_bd {zs : List V} (h : Trk zs) {v : Int} (hv : 1 ≤ v) : ∀ j, j < zs.length → 0 ≤ slT zs v j ∧ slT zs v j ≤ 7200000 + 2000000000 * (j : Int)
  | 0, _ => by
    have h1 := h.i 0 h.n1
    show 0 ≤ (gk zs 0).f0 ∧ (gk zs 0).f0 ≤ 7200000 + 2000000000 * ((0 : Nat) : Int)
    omega
  | j + 1, hj => by
    have ih := slT_bd h hv j (by omega)
    have st := stepI_bd h hv j hj
    rw [slT_next]
    omega
/-- What SlowTrack answers. -/
def slowV (s : ByteArray) (zs : List V) (v : Int) : ByteArray × List V × Int := if trackB s zs = true then (if inR 1 1000000 [v] = true then doneV s (retL zs (slT zs v) zs.length) else tErr 2) else tErr 1
theorem slowV_len (s : ByteArray) (zs : List V) (v : Int) : (slowV s zs v).2.1.length ≤ zs.length := by
  unfold slowV
  split
  · split
    · exact Nat.le_trans (doneV_len _ _) (by rw [retL_len]; exact Nat.le_refl _)
    · exact Nat.zero_le _
  · exact Nat.zero_le _
theorem upQ_zero (v : Int) (hv : 1 ≤ v) : upQ (sz 0 * 1000) v = 0 := by
  unfold upQ sz
  rw [if_neg (by omega), show (0 : Int) * 1000 + v - 1 = v - 1 by omega]
  exact Int.ediv_eq_zero_of_lt (by omega) (by omega)
/-- The closure in the loop. -/
theorem slowAt_any (zs : List V) (hc : Trk zs) (v : Int) (hv : 1 ≤ v ∧ v ≤ 1000000) (bs bb j : Nat) (hj : j < zs.length) (hbs : bs < bb) (W : World) (hS : SL W bs bb v (slT zs v (j - 1)) (gk zs (j - 1)).f0 (gk zs (j - 1)).f1) :
    Calls Try.prog 92 #[.agg #[.int .i64 ((gk zs j).f0), .int .i64 ((gk zs j).f1)], .pointer (some ⟨bb + 1, 0, none⟩), .pointer (some ⟨bb, 0, none⟩), .pointer (some ⟨bs, 0, none⟩)] W fun e w' => e = .returned (.int .i64 (slT zs v j)) ∧ SL w' bs bb v (slT zs v (j + 1 - 1)) (gk zs (j + 1 - 1)).f0 (gk zs (j + 1 - 1)).f1 ∧ Mod bb (bb + 2) W w' := by
  have n24 := hc.n24
  have k1 := hc.i (j - 1) (by omega)
  have k2 := hc.i j hj
  have tb := slT_bd hc hv.1 (j - 1) (by omega)
  have h := slow1_any bs bb v (slT zs v (j - 1)) (gk zs (j - 1)).f0 (gk zs (j - 1)).f1 (gk zs j).f0 (gk zs j).f1 _ W hbs hS k1.2 k2.2 k1.1 k2.1 hv (by omega) rfl
  have e : slT zs v (j - 1) + (if (gk zs j).f0 - (gk zs (j - 1)).f0 < upQ (sz ((gk zs j).f1 - (gk zs (j - 1)).f1) * 1000) v then upQ (sz ((gk zs j).f1 - (gk zs (j - 1)).f1) * 1000) v else (gk zs j).f0 - (gk zs (j - 1)).f0) = slT zs v j := by
    rcases Nat.eq_zero_or_pos j with c | c
    · subst c
      show (gk zs 0).f0 + (if (gk zs 0).f0 - (gk zs 0).f0 < upQ (sz ((gk zs 0).f1 - (gk zs 0).f1) * 1000) v then upQ (sz ((gk zs 0).f1 - (gk zs 0).f1) * 1000) v else (gk zs 0).f0 - (gk zs 0).f0) = (gk zs 0).f0
      rw [Int.sub_self, Int.sub_self, upQ_zero v hv.1]
      simp
    · obtain ⟨k, rfl⟩ : ∃ k, j = k + 1 := ⟨j - 1, by omega⟩
      rw [slT_next]
      rfl
  rw [e] at h
  exact h
set_option maxRecDepth 100000 in
set_option maxHeartbeats 8000000 in
theorem implSlow_any (s : ByteArray) (hs : s.size ≤ maxLen) (g cap : Nat) (zs : List V) (v : Int) (w : World) (hb : zs.length ≤ 1048577) (h1 : Row w g zs) :
    Calls Try.prog 48 #[.agg #[.string s, .slice (some ⟨g, 0, none⟩) zs.length cap], .int .i64 v] w (TPost (slowV s zs v) w) := by
  obtain ⟨W0, hW0⟩ : ∃ W, W = ((w.alloc (Obj.cells #[Value.string s, Value.slice (some ⟨g, 0, none⟩) zs.length cap] 29)).alloc (Obj.cells #[.int .i64 v] 2)).alloc (Obj.cells #[Value.string { data := #[] }, Value.slice none 0 0] 29) := ⟨_, rfl⟩
  have F0 : Fr 2 w.heap.size w.heap.size w W0 s (.slice (some ⟨g, 0, none⟩) zs.length cap) := by rw [hW0]; exact fr_new2 _ _ _ _ _ _ (Nat.le_refl _)
  have hy0 : W0.cell? ⟨w.heap.size + 1, 0, none⟩ = some (.int .i64 v) := by
    rw [hW0, World.cell?_alloc_lt _ _ _ (by simp)]
    first | (simp; done) | (rw [show w.heap.size + 1 = (w.alloc (Obj.cells #[Value.string s, Value.slice (some ⟨g, 0, none⟩) zs.length cap] 29)).heap.size by simp, World.cell?_alloc_at]; rfl)
  have hl0 := World.block_lt_of_cell? W0 ⟨w.heap.size + 1, 0, none⟩ hy0
  have V := Lib.hid (implValid_any s hs g cap zs W0 hb (h1.below F0.bel))
  have L := Lib.hid (fun b cap w hc => within1 1 1000000 v b cap w hc)
  have RP := Lib.hid (fun (W : World) (hB : Below w.heap.size w W) k hk => Ky.Row.gk (h1.below hB) k hk)
  have RT := Lib.hid (fun (W : World) (hB : Below w.heap.size w W) (bb : Nat) (hbb : bb + 2 ≤ W.heap.size) (hbs : w.heap.size + 1 < bb) (hc : Trk zs) (hv : 1 ≤ v ∧ v ≤ 1000000) (hS : SL W (w.heap.size + 1) bb v (gk zs 0).f0 (gk zs 0).f0 (gk zs 0).f1) => retimed_any 92 #[.pointer (some ⟨bb + 1, 0, none⟩), .pointer (some ⟨bb, 0, none⟩), .pointer (some ⟨w.heap.size + 1, 0, none⟩)] (enters_of Try.func92 (by kernel_rfl) rfl) s hs g cap zs W bb (bb + 2) hbb hc.n24 hc.n1 (h1.below hB)
    (slT zs v) (fun j X => SL X (w.heap.size + 1) bb v (slT zs v (j - 1)) (gk zs (j - 1)).f0 (gk zs (j - 1)).f1) hS
    (fun _ X X' h hb => h.of hb (by omega) (by omega))
    (fun j X hj hW h => slowAt_any zs hc v hv (w.heap.size + 1) bb j hj hbs X h))
  have HF0 := Lib.hid F0
  obtain ⟨m0, m1⟩ := F0.t
  have HW := Lib.hid hW0
  clear h1 hs F0 hW0
  unfold slowV
  cases ho : trackB s zs with
  | false =>
    rw [if_neg (by simp)]
    rw [ho] at V
    clear ho RT RP
    go_enter Try.func48, Try.ntmps48
    go_wp2_with fail
    rw [← HW.out]
    clear HW
    go_wp2_with fail
    refine V.out.mono ?_
    rintro e w1 ⟨rfl, hb1⟩
    clear m0 m1
    have hfr := HF0.out.below hb1
    have HFR := Lib.hid hfr
    have HB1 := Lib.hid hfr.bel
    obtain ⟨m0, m1⟩ := hfr.t
    have r0 := hfr.r0
    have r1 := hfr.r1
    have f0 := hfr.f0
    have f1 := hfr.f1
    clear hfr
    go_wp2_with fail
    refine bodyPost_ret (v := .tuple #[.agg #[.string { data := #[] }, .slice none 0 0], .int .i64 1]) (by simp [results, Try.results48, go_sem, r0, r1]) rfl ⟨_, rfl, Ky.Own.nil _ _ _, ?_⟩
    repeat (first | exact Below.refl _ _ | exact HB1.out | refine Below.setCell ?_ (by first | (simp; done) | omega | (simp; omega)) _ | refine Below.alloc ?_ (by first | (simp; done) | omega | (simp; omega)) _ | refine bel_drew ?_)
  | true =>
    rw [if_pos rfl]
    rw [ho] at V
    have hT := trk_of ho
    clear ho
    cases hx : inR 1 1000000 [v] with
    | false =>
      rw [hx] at L
      rw [if_neg (by simp)]
      clear hx RT RP
      go_enter Try.func48, Try.ntmps48
      go_wp2_with fail
      rw [← HW.out]
      clear HW
      go_wp2_with fail
      refine V.out.mono ?_
      rintro e w1 ⟨rfl, hb1⟩
      have z0 := (hb1.cell (p := ⟨w.heap.size + 1, 0, none⟩) hl0).trans hy0
      clear m0 m1 hy0
      obtain ⟨W2, hW2⟩ : ∃ W, W = w1.alloc (Obj.cells #[.int .i64 v] 2) := ⟨_, rfl⟩
      have hb2 : Below w1.heap.size w1 W2 := by rw [hW2]; exact (Below.refl _ _).alloc (Nat.le_refl _) _
      have hc2 : W2.cell? ⟨w1.heap.size, 0, none⟩ = some (.int .i64 v) := by rw [hW2]; simp
      have HF2 : Hid (Fr 2 w.heap.size w.heap.size w W2 s (.slice (some ⟨g, 0, none⟩) zs.length cap)) := Lib.hid (by rw [hW2]; exact (HF0.out.below hb1).alloc _)
      have hlz := World.block_lt_of_cell? w1 ⟨w.heap.size + 1, 0, none⟩ z0
      have HZ2 := Lib.hid ((hb2.cell (p := ⟨w.heap.size + 1, 0, none⟩) hlz).trans z0)
      have HW2 := Lib.hid hW2
      clear hW2 hb1 hb2 hlz
      go_wp2_with fail
      rw [← HW2.out]
      clear HW2
      refine (L.out _ _ _ hc2).mono ?_
      rintro e w' ⟨rfl, rfl⟩
      clear hc2 z0
      have hfr := HF2.out
      have HFR := Lib.hid hfr
      have HB1 := Lib.hid hfr.bel
      obtain ⟨m0, m1⟩ := hfr.t
      have r0 := hfr.r0
      have r1 := hfr.r1
      have f0 := hfr.f0
      have f1 := hfr.f1
      clear hfr
      go_wp2_with fail
      refine bodyPost_ret (v := .tuple #[.agg #[.string { data := #[] }, .slice none 0 0], .int .i64 2]) (by simp [results, Try.results48, go_sem, r0, r1]) rfl ⟨_, rfl, Ky.Own.nil _ _ _, ?_⟩
      repeat (first | exact Below.refl _ _ | exact HB1.out | refine Below.setCell ?_ (by first | (simp; done) | omega | (simp; omega)) _ | refine Below.alloc ?_ (by first | (simp; done) | omega | (simp; omega)) _ | refine bel_drew ?_)
    | true =>
      rw [hx] at L
      rw [if_pos rfl]
      have hv := (inR_1 _ _ _).1 hx
      have n1 := hT.n1
      have RT2 := Lib.hid (fun (W : World) (hB : Below w.heap.size w W) bb h1 h2 hS => RT.out W hB bb h1 h2 hT hv hS)
      clear RT hT hx hv
      obtain ⟨R, hR⟩ : ∃ R, R = doneV s (retL zs (slT zs v) zs.length) := ⟨_, rfl⟩
      rw [← hR] at RT2 ⊢
      clear hR
      go_enter Try.func48, Try.ntmps48
      go_wp2_with fail
      rw [← HW.out]
      clear HW
      go_wp2_with fail
      refine V.out.mono ?_
      rintro e w1 ⟨rfl, hb1⟩
      have z0 := (hb1.cell (p := ⟨w.heap.size + 1, 0, none⟩) hl0).trans hy0
      clear m0 m1 hy0
      obtain ⟨W2, hW2⟩ : ∃ W, W = w1.alloc (Obj.cells #[.int .i64 v] 2) := ⟨_, rfl⟩
      have hb2 : Below w1.heap.size w1 W2 := by rw [hW2]; exact (Below.refl _ _).alloc (Nat.le_refl _) _
      have hc2 : W2.cell? ⟨w1.heap.size, 0, none⟩ = some (.int .i64 v) := by rw [hW2]; simp
      have HF2 : Hid (Fr 2 w.heap.size w.heap.size w W2 s (.slice (some ⟨g, 0, none⟩) zs.length cap)) := Lib.hid (by rw [hW2]; exact (HF0.out.below hb1).alloc _)
      have hlz := World.block_lt_of_cell? w1 ⟨w.heap.size + 1, 0, none⟩ z0
      have HZ2 := Lib.hid ((hb2.cell (p := ⟨w.heap.size + 1, 0, none⟩) hlz).trans z0)
      have HW2 := Lib.hid hW2
      clear hW2 hb1 hb2 hlz
      go_wp2_with fail
      rw [← HW2.out]
      clear HW2
      refine (L.out _ _ _ hc2).mono ?_
      rintro e w' ⟨rfl, rfl⟩
      clear hc2 z0
      have hfr := HF2.out
      have HFR := Lib.hid hfr
      have HB1 := Lib.hid hfr.bel
      obtain ⟨m0, m1⟩ := hfr.t
      have r0 := hfr.r0
      have r1 := hfr.r1
      have f0 := hfr.f0
      have f1 := hfr.f1
      clear hfr
      have l0 : (0 : Int) < (zs.length : Int) := by omega
      obtain ⟨c0, c1⟩ := RP.out W2 HB1.out 0 n1
      have hsz2 := HFR.out.hs
      generalize (gk zs 0).f0 = x0 at *
      generalize (gk zs 0).f1 = x1 at *
      obtain ⟨W4, hW4⟩ : ∃ W, W = (W2.alloc (Obj.cells #[.int .i64 x0, .int .i64 x1] 48)).alloc (Obj.cells #[.int .i64 x0] 2) := ⟨_, rfl⟩
      have hb4 : Below W2.heap.size W2 W4 := by rw [hW4]; exact ((Below.refl _ _).alloc (Nat.le_refl _) _).alloc (by simp) _
      have hs4 : W4.heap.size = W2.heap.size + 2 := by rw [hW4]; simp
      have SL4 : SL W4 (w.heap.size + 1) W2.heap.size v x0 x0 x1 := by
        refine ⟨?_, ?_, ?_, (hb4.cell (p := ⟨w.heap.size + 1, 0, none⟩) (World.block_lt_of_cell? W2 ⟨w.heap.size + 1, 0, none⟩ HZ2.out)).trans HZ2.out, ?_, ?_, ?_⟩
        · rw [hW4, World.cell?_alloc_at _ _ _ _ (by simp)]; rfl
        · rw [hW4, World.cell?_alloc_lt _ _ _ (by simp)]; simp
        · rw [hW4, World.cell?_alloc_lt _ _ _ (by simp)]; simp
        · rw [hW4]
          have e := heap_alloc_new (W2.alloc (Obj.cells #[.int .i64 x0, .int .i64 x1] 48)) (Obj.cells #[.int .i64 x0] 2)
          rw [World.size_alloc] at e
          simp only [World.frozen?, e]
          simp
        · rw [hW4]
          have e := heap_alloc_new W2 (Obj.cells #[.int .i64 x0, .int .i64 x1] 48)
          have e2 := heap_alloc_old (W2.alloc (Obj.cells #[.int .i64 x0, .int .i64 x1] 48)) (Obj.cells #[.int .i64 x0] 2) (r := W2.heap.size) (by simp)
          rw [e] at e2
          simp [World.frozen?, e2]
        · rw [hW4]
          have e := heap_alloc_new W2 (Obj.cells #[.int .i64 x0, .int .i64 x1] 48)
          have e2 := heap_alloc_old (W2.alloc (Obj.cells #[.int .i64 x0, .int .i64 x1] 48)) (Obj.cells #[.int .i64 x0] 2) (r := W2.heap.size) (by simp)
          rw [e] at e2
          simp [World.frozen?, e2]
      have hfr4 := HFR.out.below hb4
      obtain ⟨n0, n1'⟩ := hfr4.t
      rw [hW4] at n0 n1'
      have hc3 : (W2.alloc (Obj.cells #[.int .i64 x0, .int .i64 x1] 48)).cell? ⟨W2.heap.size, 0, none⟩ = some (.int .i64 x0) := by simp
      have RT4 := Lib.hid (RT2.out W4 hfr4.bel W2.heap.size (by omega) (by omega) SL4)
      have HFR4 := Lib.hid hfr4
      have HW4 := Lib.hid hW4
      clear hW4 hb4 SL4 hfr4 HFR r0 r1 f0 f1 RT2 HZ2 HB1
      go_wp2_with fail
      rw [← HW4.out]
      clear HW4
      clear m0 m1 c0 c1 n0 n1' hc3
      have HFR := HFR4
      clear HFR4
      refine (RT4.out).mono ?_
      rintro e w9 ⟨v9, rfl, ho9, hb9⟩
      have hfr := HFR.out.mod hb9 (Or.inl (by omega))
      have hs8 := HFR.out.hs
      have hs9 := hb9.size
      have HB9 := Lib.hid hfr.bel
      have r0 := hfr.r0
      have r1 := hfr.r1
      have f0 := hfr.f0
      have f1 := hfr.f1
      obtain ⟨a9, c9, rfl⟩ := ho9.len
      have HO9 := Lib.hid ho9
      clear hfr hb9 ho9
      go_wp2_with fail
      refine bodyPost_ret (v := .tuple #[.agg #[.string R.1, .slice a9 R.2.1.length c9], .int .i64 R.2.2]) (by simp [results, Try.results48, go_sem, r0, r1]) rfl ⟨_, rfl, ?_, ?_⟩
      · refine Ky.Own.le (Ky.Own.mod HO9.out (B' := w.heap.size + 2) (C' := w.heap.size + 2 + 1) ?_ (Or.inr (by omega))) (by omega) (by simp)
        repeat (first | exact Mod.refl _ _ _ | refine Mod.setCell ?_ (by omega) (by omega) _)
      ·
        repeat (first | exact Below.refl _ _ | exact HB9.out | refine Below.setCell ?_ (by first | (simp; done) | omega | (simp; omega)) _ | refine Below.alloc ?_ (by first | (simp; done) | omega | (simp; omega)) _ | refine bel_drew ?_)
end Go.Proofs.Ytdbocpcijkngpaa.Tk
