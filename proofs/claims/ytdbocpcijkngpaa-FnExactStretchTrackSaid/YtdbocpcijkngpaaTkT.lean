/-
  StretchTrack (both packages).
-/
import Derived.Test.YtdbocpcijkngpaaTkS
import Derived.StillTailTactics
namespace Go.Proofs.Ytdbocpcijkngpaa.Tk
open Go.RowKit
open Ky (V In Own Row At gk)
set_option linter.unusedVariables false

theorem fr_new3 (w : World) (s : ByteArray) (u : Value) (o o2 : Obj) (B C : Nat) (hC : C ≤ w.heap.size) : Fr 3 B C w ((((w.alloc (Obj.cells #[Value.string s, u] 29)).alloc o).alloc o2).alloc (Obj.cells #[Value.string { data := #[] }, Value.slice none 0 0] 29)) s u := by
  refine ⟨by simp, by omega, hC, ((((Mod.refl _ _ _).alloc _).alloc _).alloc _).alloc _, (((TAt.new w s u _).below ((Below.refl _ _).alloc (Nat.le_refl _) _)).below ((Below.refl _ _).alloc (Nat.le_refl _) _)).below ((Below.refl _ _).alloc (Nat.le_refl _) _), ?_⟩
  have e := heap_alloc_new (((w.alloc (Obj.cells #[Value.string s, u] 29)).alloc o).alloc o2) (Obj.cells #[Value.string { data := #[] }, Value.slice none 0 0] 29)
  rw [World.size_alloc, World.size_alloc, World.size_alloc] at e
  exact e
theorem st_bd (x n d : Int) (hx : 0 ≤ x ∧ x ≤ 7200000) (hn : 1 ≤ n ∧ n ≤ 100) (hd : 1 ≤ d ∧ d ≤ 100) : (0 ≤ x * n ∧ x * n ≤ 720000000) ∧ 0 ≤ x * n / d ∧ x * n / d ≤ 720000000 := by
  have h1 : 0 ≤ x * n := Int.mul_nonneg hx.1 (by omega)
  have h2 : x * n ≤ 7200000 * n := Int.mul_le_mul_of_nonneg_right hx.2 (by omega)
  have h3 : x * n / d ≤ x * n := Int.ediv_le_self _ h1
  have h4 : 0 ≤ x * n / d := Int.ediv_nonneg h1 (by omega)
  omega
set_option maxHeartbeats 1000000 in
theorem stretch1_any (x0 x1 n d : Int) (hx : 0 ≤ x0 ∧ x0 ≤ 7200000) (hn : 1 ≤ n ∧ n ≤ 100) (hd : 1 ≤ d ∧ d ≤ 100) (b b2 : Nat) (w : World) (hc : w.cell? ⟨b, 0, none⟩ = some (.int .i64 n)) (hc2 : w.cell? ⟨b2, 0, none⟩ = some (.int .i64 d)) :
    Calls Try.prog 84 #[.agg #[.int .i64 x0, .int .i64 x1], .pointer (some ⟨b, 0, none⟩), .pointer (some ⟨b2, 0, none⟩)] w fun e w' => e = .returned (.int .i64 (x0 * n / d)) ∧ Below w.heap.size w w' := by
  have hbl := World.block_lt_of_cell? w ⟨b, 0, none⟩ hc
  have hbl2 := World.block_lt_of_cell? w ⟨b2, 0, none⟩ hc2
  have hc1 : ∀ o : Obj, (w.alloc o).cell? ⟨b, 0, none⟩ = some (.int .i64 n) := fun o => (((Below.refl w.heap.size w).alloc (Nat.le_refl _) o).cell (p := ⟨b, 0, none⟩) hbl).trans hc
  have hc3 : ∀ o : Obj, (w.alloc o).cell? ⟨b2, 0, none⟩ = some (.int .i64 d) := fun o => (((Below.refl w.heap.size w).alloc (Nat.le_refl _) o).cell (p := ⟨b2, 0, none⟩) hbl2).trans hc2
  obtain ⟨s1, s2⟩ := st_bd x0 n d hx hn hd
  have wk1 : wrap64 (x0 * n) = x0 * n := IntWalk.wrap64_in _ (by omega)
  have wk2 : IntKind.i64.wrap (x0 * n) = x0 * n := IntWalk.i64_in _ (by omega)
  have hd0 : 0 < d := by omega
  have hdn : ¬ d = 0 := by omega
  have hs0 := s1.1
  go_enter Try.func84, Try.ntmps84
  go_wp2_with fail
  go_ret
  refine ⟨rfl, ?_⟩
  repeat (first | exact Below.refl _ _ | refine Below.setCell ?_ (by first | (simp; done) | omega | (simp; omega)) _ | refine Below.alloc ?_ (by first | (simp; done) | omega | (simp; omega)) _ | refine bel_drew ?_)
def stT (zs : List V) (n d : Int) (j : Nat) : Int := (gk zs j).f0 * n / d
/-- What StretchTrack answers. -/
def strV (s : ByteArray) (zs : List V) (n d : Int) : ByteArray × List V × Int := if trackB s zs = true then (if (inR 1 100 [n] && inR 1 100 [d]) = true then doneV s (retL zs (stT zs n d) zs.length) else tErr 2) else tErr 1
theorem strV_len (s : ByteArray) (zs : List V) (n d : Int) : (strV s zs n d).2.1.length ≤ zs.length := by
  unfold strV
  split
  · split
    · exact Nat.le_trans (doneV_len _ _) (by rw [retL_len]; exact Nat.le_refl _)
    · exact Nat.zero_le _
  · exact Nat.zero_le _
set_option maxRecDepth 100000 in
set_option maxHeartbeats 8000000 in
theorem implStretch_any (s : ByteArray) (hs : s.size ≤ maxLen) (g cap : Nat) (zs : List V) (n d : Int) (w : World) (hb : zs.length ≤ 1048577) (h1 : Row w g zs) :
    Calls Try.prog 40 #[.agg #[.string s, .slice (some ⟨g, 0, none⟩) zs.length cap], .int .i64 n, .int .i64 d] w (TPost (strV s zs n d) w) := by
  obtain ⟨W0, hW0⟩ : ∃ W, W = (((w.alloc (Obj.cells #[Value.string s, Value.slice (some ⟨g, 0, none⟩) zs.length cap] 29)).alloc (Obj.cells #[.int .i64 n] 2)).alloc (Obj.cells #[.int .i64 d] 2)).alloc (Obj.cells #[Value.string { data := #[] }, Value.slice none 0 0] 29) := ⟨_, rfl⟩
  have F0 : Fr 3 w.heap.size w.heap.size w W0 s (.slice (some ⟨g, 0, none⟩) zs.length cap) := by rw [hW0]; exact fr_new3 _ _ _ _ _ _ _ (Nat.le_refl _)
  have hy0 : W0.cell? ⟨w.heap.size + 1, 0, none⟩ = some (.int .i64 n) := by
    rw [hW0, World.cell?_alloc_lt _ _ _ (by simp), World.cell?_alloc_lt _ _ _ (by simp)]
    first | (simp; done) | (rw [show w.heap.size + 1 = (w.alloc (Obj.cells #[Value.string s, Value.slice (some ⟨g, 0, none⟩) zs.length cap] 29)).heap.size by simp, World.cell?_alloc_at]; rfl)
  have hy1 : W0.cell? ⟨w.heap.size + 2, 0, none⟩ = some (.int .i64 d) := by
    rw [hW0, World.cell?_alloc_lt _ _ _ (by simp)]
    first | (simp; done) | (rw [World.cell?_alloc_at _ _ _ _ (by simp)]; rfl)
  have hl0 := World.block_lt_of_cell? W0 ⟨w.heap.size + 1, 0, none⟩ hy0
  have hl1 := World.block_lt_of_cell? W0 ⟨w.heap.size + 2, 0, none⟩ hy1
  have V := Lib.hid (implValid_any s hs g cap zs W0 hb (h1.below F0.bel))
  have L := Lib.hid (fun b cap w hc hc' => within2 1 100 n d b cap w hc hc')
  have RT := Lib.hid (fun (W : World) (hB : Below W0.heap.size W0 W) (hc : Trk zs) (hn : 1 ≤ n ∧ n ≤ 100) (hd : 1 ≤ d ∧ d ≤ 100) => retimed_any 84 #[.pointer (some ⟨w.heap.size + 1, 0, none⟩), .pointer (some ⟨w.heap.size + 2, 0, none⟩)] (enters_of Try.func84 (by kernel_rfl) rfl) s hs g cap zs W W.heap.size W.heap.size (Nat.le_refl _) hc.n24 hc.n1 ((h1.below F0.bel).below hB)
    (stT zs n d) (fun _ X => X.cell? ⟨w.heap.size + 1, 0, none⟩ = some (.int .i64 n) ∧ X.cell? ⟨w.heap.size + 2, 0, none⟩ = some (.int .i64 d))
    ⟨(hB.cell (p := ⟨w.heap.size + 1, 0, none⟩) hl0).trans hy0, (hB.cell (p := ⟨w.heap.size + 2, 0, none⟩) hl1).trans hy1⟩
    (fun _ X X' h hb => ⟨(hb.cell (p := ⟨w.heap.size + 1, 0, none⟩) (Nat.lt_of_lt_of_le hl0 hB.size)).trans h.1, (hb.cell (p := ⟨w.heap.size + 2, 0, none⟩) (Nat.lt_of_lt_of_le hl1 hB.size)).trans h.2⟩)
    (fun j X hj hW h => (stretch1_any _ _ n d (hc.i j hj).1 hn hd (w.heap.size + 1) (w.heap.size + 2) X h.1 h.2).mono fun e w' ⟨he, hb⟩ => ⟨he, ⟨(hb.cell (p := ⟨w.heap.size + 1, 0, none⟩) (World.block_lt_of_cell? X ⟨w.heap.size + 1, 0, none⟩ h.1)).trans h.1, (hb.cell (p := ⟨w.heap.size + 2, 0, none⟩) (World.block_lt_of_cell? X ⟨w.heap.size + 2, 0, none⟩ h.2)).trans h.2⟩, Mod.of_below hb⟩))
  have HF0 := Lib.hid F0
  obtain ⟨m0, m1⟩ := F0.t
  have HW := Lib.hid hW0
  have i2 : inR 1 100 [n, d] = (inR 1 100 [n] && inR 1 100 [d]) := inR_2 _ _ _ _
  rw [i2] at L
  clear h1 hs F0 hW0 i2
  unfold strV
  cases ho : trackB s zs with
  | false =>
    rw [if_neg (by simp)]
    rw [ho] at V
    clear ho RT
    go_enter Try.func40, Try.ntmps40
    go_wp2_with fail
    rw [← HW.out]
    clear HW
    go_wp2_with fail
    refine V.out.mono ?_
    rintro e w1 ⟨rfl, hb1⟩
    clear m0 m1
    have hfr := HF0.out.below hb1
    have HFR := Lib.hid hfr
    have HB1 := Lib.hid hfr.bel
    obtain ⟨m0, m1⟩ := hfr.t
    have r0 := hfr.r0
    have r1 := hfr.r1
    have f0 := hfr.f0
    have f1 := hfr.f1
    clear hfr
    go_wp2_with fail
    refine bodyPost_ret (v := .tuple #[.agg #[.string { data := #[] }, .slice none 0 0], .int .i64 1]) (by simp [results, Try.results40, go_sem, r0, r1]) rfl ⟨_, rfl, Ky.Own.nil _ _ _, ?_⟩
    repeat (first | exact Below.refl _ _ | exact HB1.out | refine Below.setCell ?_ (by first | (simp; done) | omega | (simp; omega)) _ | refine Below.alloc ?_ (by first | (simp; done) | omega | (simp; omega)) _ | refine bel_drew ?_)
  | true =>
    rw [if_pos rfl]
    rw [ho] at V
    have hT := trk_of ho
    clear ho
    cases hx : (inR 1 100 [n] && inR 1 100 [d]) with
    | false =>
      rw [hx] at L
      rw [if_neg (by simp)]
      clear hx RT
      go_enter Try.func40, Try.ntmps40
      go_wp2_with fail
      rw [← HW.out]
      clear HW
      go_wp2_with fail
      refine V.out.mono ?_
      rintro e w1 ⟨rfl, hb1⟩
      have z0 := (hb1.cell (p := ⟨w.heap.size + 1, 0, none⟩) hl0).trans hy0
      have z1 := (hb1.cell (p := ⟨w.heap.size + 2, 0, none⟩) hl1).trans hy1
      clear m0 m1 hy0 hy1
      obtain ⟨W2, hW2⟩ : ∃ W, W = w1.alloc (Obj.cells #[.int .i64 n, .int .i64 d] 2) := ⟨_, rfl⟩
      have hb2 : Below w1.heap.size w1 W2 := by rw [hW2]; exact (Below.refl _ _).alloc (Nat.le_refl _) _
      have hc2 : W2.cell? ⟨w1.heap.size, 0, none⟩ = some (.int .i64 n) := by rw [hW2]; simp
      have hc3 : W2.cell? ⟨w1.heap.size, 1, none⟩ = some (.int .i64 d) := by rw [hW2]; simp
      have HF2 : Hid (Fr 3 w.heap.size w.heap.size w W2 s (.slice (some ⟨g, 0, none⟩) zs.length cap)) := Lib.hid (by rw [hW2]; exact (HF0.out.below hb1).alloc _)
      have HB02 := Lib.hid (hb1.trans (hb2.mono hb1.size))
      have HW2 := Lib.hid hW2
      clear hW2 hb1 hb2
      go_wp2_with fail
      rw [← HW2.out]
      clear HW2
      refine (L.out _ _ _ hc2 hc3).mono ?_
      rintro e w' ⟨rfl, rfl⟩
      clear hc2 hc3 z0 z1
      have hfr := HF2.out
      have HFR := Lib.hid hfr
      have HB1 := Lib.hid hfr.bel
      obtain ⟨m0, m1⟩ := hfr.t
      have r0 := hfr.r0
      have r1 := hfr.r1
      have f0 := hfr.f0
      have f1 := hfr.f1
      clear hfr
      go_wp2_with fail
      refine bodyPost_ret (v := .tuple #[.agg #[.string { data := #[] }, .slice none 0 0], .int .i64 2]) (by simp [results, Try.results40, go_sem, r0, r1]) rfl ⟨_, rfl, Ky.Own.nil _ _ _, ?_⟩
      repeat (first | exact Below.refl _ _ | exact HB1.out | refine Below.setCell ?_ (by first | (simp; done) | omega | (simp; omega)) _ | refine Below.alloc ?_ (by first | (simp; done) | omega | (simp; omega)) _ | refine bel_drew ?_)
    | true =>
      rw [hx] at L
      rw [if_pos rfl]
      rw [Bool.and_eq_true, inR_1, inR_1] at hx
      have RT2 := Lib.hid (fun (W : World) (hB : Below W0.heap.size W0 W) => RT.out W hB hT hx.1 hx.2)
      clear RT hT hx
      obtain ⟨R, hR⟩ : ∃ R, R = doneV s (retL zs (stT zs n d) zs.length) := ⟨_, rfl⟩
      rw [← hR] at RT2 ⊢
      clear hR
      go_enter Try.func40, Try.ntmps40
      go_wp2_with fail
      rw [← HW.out]
      clear HW
      go_wp2_with fail
      refine V.out.mono ?_
      rintro e w1 ⟨rfl, hb1⟩
      have z0 := (hb1.cell (p := ⟨w.heap.size + 1, 0, none⟩) hl0).trans hy0
      have z1 := (hb1.cell (p := ⟨w.heap.size + 2, 0, none⟩) hl1).trans hy1
      clear m0 m1 hy0 hy1
      obtain ⟨W2, hW2⟩ : ∃ W, W = w1.alloc (Obj.cells #[.int .i64 n, .int .i64 d] 2) := ⟨_, rfl⟩
      have hb2 : Below w1.heap.size w1 W2 := by rw [hW2]; exact (Below.refl _ _).alloc (Nat.le_refl _) _
      have hc2 : W2.cell? ⟨w1.heap.size, 0, none⟩ = some (.int .i64 n) := by rw [hW2]; simp
      have hc3 : W2.cell? ⟨w1.heap.size, 1, none⟩ = some (.int .i64 d) := by rw [hW2]; simp
      have HF2 : Hid (Fr 3 w.heap.size w.heap.size w W2 s (.slice (some ⟨g, 0, none⟩) zs.length cap)) := Lib.hid (by rw [hW2]; exact (HF0.out.below hb1).alloc _)
      have HB02 := Lib.hid (hb1.trans (hb2.mono hb1.size))
      have HW2 := Lib.hid hW2
      clear hW2 hb1 hb2
      go_wp2_with fail
      rw [← HW2.out]
      clear HW2
      refine (L.out _ _ _ hc2 hc3).mono ?_
      rintro e w' ⟨rfl, rfl⟩
      clear hc2 hc3 z0 z1
      have hfr := HF2.out
      have HFR := Lib.hid hfr
      have HB1 := Lib.hid hfr.bel
      obtain ⟨m0, m1⟩ := hfr.t
      have r0 := hfr.r0
      have r1 := hfr.r1
      have f0 := hfr.f0
      have f1 := hfr.f1
      clear hfr
      go_wp2_with fail
      clear m0 m1 r0 r1 f0 f1
      refine ((RT2.out _ HB02.out).mono fun e w1 h => h.t).mono ?_
      rintro e w9 ⟨v9, rfl, ho9, hb9⟩
      have hfr := HFR.out.below hb9
      have hs8 := HFR.out.hs
      have hs9 := hb9.size
      have HB9 := Lib.hid hfr.bel
      have r0 := hfr.r0
      have r1 := hfr.r1
      have f0 := hfr.f0
      have f1 := hfr.f1
      obtain ⟨a9, c9, rfl⟩ := ho9.len
      have HO9 := Lib.hid ho9
      clear hfr hb9 ho9
      go_wp2_with fail
      refine bodyPost_ret (v := .tuple #[.agg #[.string R.1, .slice a9 R.2.1.length c9], .int .i64 R.2.2]) (by simp [results, Try.results40, go_sem, r0, r1]) rfl ⟨_, rfl, ?_, ?_⟩
      · refine Ky.Own.le (Ky.Own.mod HO9.out (B' := w.heap.size + 3) (C' := w.heap.size + 3 + 1) ?_ (Or.inr (by omega))) (by omega) (by simp)
        repeat (first | exact Mod.refl _ _ _ | refine Mod.setCell ?_ (by omega) (by omega) _)
      ·
        repeat (first | exact Below.refl _ _ | exact HB9.out | refine Below.setCell ?_ (by first | (simp; done) | omega | (simp; omega)) _ | refine Below.alloc ?_ (by first | (simp; done) | omega | (simp; omega)) _ | refine bel_drew ?_)
set_option maxRecDepth 100000 in
set_option maxHeartbeats 8000000 in
theorem specStretch_any (s : ByteArray) (hs : s.size ≤ maxLen) (g cap : Nat) (zs : List V) (n d : Int) (w : World) (hb : zs.length ≤ 1048577) (h1 : Row w g zs) :
    Calls Try.prog 39 #[.agg #[.string s, .slice (some ⟨g, 0, none⟩) zs.length cap], .int .i64 n, .int .i64 d] w (TPost (strV s zs n d) w) := by
  obtain ⟨W0, hW0⟩ : ∃ W, W = (w.alloc (Obj.cells #[Value.string s, Value.slice (some ⟨g, 0, none⟩) zs.length cap] 29)).alloc (Obj.cells #[Value.string { data := #[] }, Value.slice none 0 0] 29) := ⟨_, rfl⟩
  have F0 : Fr 1 w.heap.size w.heap.size w W0 s (.slice (some ⟨g, 0, none⟩) zs.length cap) := by rw [hW0]; exact fr_new _ _ _ _ _ (Nat.le_refl _)
  have V := Lib.hid (l14One_any w.heap.size 0 g cap s zs W0 hb F0.t.c0 F0.t.c1 (h1.below F0.bel))
  have OW := Lib.hid (fun (W : World) (hB : Below w.heap.size w W) hn hT => l14Own_any w.heap.size g cap s zs W hn hb hT (h1.below hB))
  have DN := Lib.hid (fun h hcp zs' (W : World) hb hR => l14Done_any s h hcp zs' W hb hR)
  have L1 := Lib.hid (fun w => l00In_any n 1 100 w)
  have L2 := Lib.hid (fun w => l00In_any d 1 100 w)
  have HF0 := Lib.hid F0
  obtain ⟨m0, m1⟩ := F0.t
  have HW := Lib.hid hW0
  clear h1 hs F0 hW0
  unfold strV
  cases ho : trackB s zs with
  | false =>
    rw [if_neg (by simp)]
    rw [ho] at V
    clear ho
    go_enter Try.func39, Try.ntmps39
    go_wp2_with fail
    rw [← HW.out]
    clear HW
    go_wp2_with fail
    refine V.out.mono ?_
    rintro e w1 ⟨rfl, m, hm⟩
    have hb1 : Below W0.heap.size W0 w1 := by rw [hm]; exact bel_dT (Below.refl _ _) m
    clear m0 m1 hm
    have hfr := HF0.out.below hb1
    have HFR := Lib.hid hfr
    have HB1 := Lib.hid hfr.bel
    obtain ⟨m0, m1⟩ := hfr.t
    have r0 := hfr.r0
    have r1 := hfr.r1
    have f0 := hfr.f0
    have f1 := hfr.f1
    clear hfr
    go_wp2_with fail
    refine bodyPost_ret (v := .tuple #[.agg #[.string { data := #[] }, .slice none 0 0], .int .i64 1]) (by simp [results, Try.results39, go_sem, r0, r1]) rfl ⟨_, rfl, Ky.Own.nil _ _ _, ?_⟩
    repeat (first | exact Below.refl _ _ | exact HB1.out | refine Below.setCell ?_ (by first | (simp; done) | omega | (simp; omega)) _ | refine Below.alloc ?_ (by first | (simp; done) | omega | (simp; omega)) _ | refine bel_drew ?_)
  | true =>
    rw [if_pos rfl]
    rw [ho] at V
    have hT := trk_of ho
    clear ho
    cases hx0 : inR 1 100 [n] with
    | false =>
      rw [hx0] at L1
      rw [if_neg (by simp)]
      clear hx0
      go_enter Try.func39, Try.ntmps39
      go_wp2_with fail
      rw [← HW.out]
      clear HW
      go_wp2_with fail
      refine V.out.mono ?_
      rintro e w1 ⟨rfl, m, hm⟩
      have hb1 : Below W0.heap.size W0 w1 := by rw [hm]; exact bel_dT (Below.refl _ _) m
      clear m0 m1 hm
      have hfr := HF0.out.below hb1
      have HFR := Lib.hid hfr
      have HB1 := Lib.hid hfr.bel
      obtain ⟨m0, m1⟩ := hfr.t
      have r0 := hfr.r0
      have r1 := hfr.r1
      have f0 := hfr.f0
      have f1 := hfr.f1
      clear hfr
      clear hb1
      go_wp2_with fail
      refine (L1.out _).mono ?_
      rintro e w' ⟨rfl, rfl⟩
      go_wp2_with fail
      refine bodyPost_ret (v := .tuple #[.agg #[.string { data := #[] }, .slice none 0 0], .int .i64 2]) (by simp [results, Try.results39, go_sem, r0, r1]) rfl ⟨_, rfl, Ky.Own.nil _ _ _, ?_⟩
      repeat (first | exact Below.refl _ _ | exact HB1.out | refine Below.setCell ?_ (by first | (simp; done) | omega | (simp; omega)) _ | refine Below.alloc ?_ (by first | (simp; done) | omega | (simp; omega)) _ | refine bel_drew ?_)
    | true =>
      rw [hx0] at L1

      cases hx1 : inR 1 100 [d] with
      | false =>
        rw [hx1] at L2
        rw [Bool.and_false, if_neg (by simp)]
        clear hx1
        go_enter Try.func39, Try.ntmps39
        go_wp2_with fail
        rw [← HW.out]
        clear HW
        go_wp2_with fail
        refine V.out.mono ?_
        rintro e w1 ⟨rfl, m, hm⟩
        have hb1 : Below W0.heap.size W0 w1 := by rw [hm]; exact bel_dT (Below.refl _ _) m
        clear m0 m1 hm
        have hfr := HF0.out.below hb1
        have HFR := Lib.hid hfr
        have HB1 := Lib.hid hfr.bel
        obtain ⟨m0, m1⟩ := hfr.t
        have r0 := hfr.r0
        have r1 := hfr.r1
        have f0 := hfr.f0
        have f1 := hfr.f1
        clear hfr
        clear hb1
        go_wp2_with fail
        refine (L1.out _).mono ?_
        rintro e w' ⟨rfl, rfl⟩
        go_wp2_with fail
        refine (L2.out _).mono ?_
        rintro e w' ⟨rfl, rfl⟩
        go_wp2_with fail
        refine bodyPost_ret (v := .tuple #[.agg #[.string { data := #[] }, .slice none 0 0], .int .i64 2]) (by simp [results, Try.results39, go_sem, r0, r1]) rfl ⟨_, rfl, Ky.Own.nil _ _ _, ?_⟩
        repeat (first | exact Below.refl _ _ | exact HB1.out | refine Below.setCell ?_ (by first | (simp; done) | omega | (simp; omega)) _ | refine Below.alloc ?_ (by first | (simp; done) | omega | (simp; omega)) _ | refine bel_drew ?_)
      | true =>
        rw [hx1] at L2
        rw [Bool.and_self, if_pos rfl]
        have hn := (inR_1 _ _ _).1 hx0
        have hd := (inR_1 _ _ _).1 hx1
        clear hx0 hx1
        have IL := Lib.hid (rtT_len zs (stT zs n d))
        have IS := Lib.hid (rtT_set zs (stT zs n d))
        have IG := Lib.hid (rtT_get zs (stT zs n d))
        have IAt := Lib.hid (rtT_at zs (stT zs n d))
        have IA := Lib.hid (rtT_all zs (stT zs n d))
        have I0 := rtT_zero zs (stT zs n d)
        have RL := retL_len zs (stT zs n d) zs.length
        have n1 := hT.n1
        have n24 := hT.n24
        have KI := Lib.hid hT.i
        clear hT
        obtain ⟨RR, hRR⟩ : ∃ L, L = retL zs (stT zs n d) zs.length := ⟨_, rfl⟩
        rw [← hRR] at IA RL ⊢
        clear hRR
        obtain ⟨M, hM⟩ : ∃ M, M = rtT zs (stT zs n d) := ⟨_, rfl⟩
        rw [← hM] at IL IS IG IAt IA I0
        clear hM
        go_enter Try.func39, Try.ntmps39
        go_wp2_with fail
        rw [← HW.out]
        clear HW
        go_wp2_with fail
        refine V.out.mono ?_
        rintro e w1 ⟨rfl, m, hm⟩
        have hb1 : Below W0.heap.size W0 w1 := by rw [hm]; exact bel_dT (Below.refl _ _) m
        clear m0 m1 hm
        have hfr := HF0.out.below hb1
        have HFR := Lib.hid hfr
        have HB1 := Lib.hid hfr.bel
        obtain ⟨m0, m1⟩ := hfr.t
        have r0 := hfr.r0
        have r1 := hfr.r1
        have f0 := hfr.f0
        have f1 := hfr.f1
        clear hfr
        clear hb1
        go_wp2_with fail
        refine (L1.out _).mono ?_
        rintro e w' ⟨rfl, rfl⟩
        go_wp2_with fail
        refine (L2.out _).mono ?_
        rintro e w' ⟨rfl, rfl⟩
        go_wp2_with fail
        have hsw := HFR.out.hs
        refine (OW.out _ HB1.out n1 ⟨m0, m1⟩).mono ?_
        rintro e w2 ⟨v2, rfl, ho2, hn2, hb2⟩
        obtain ⟨h, hcp, rfl, hh1, hh2⟩ : ∃ h hcp, v2 = .slice (some ⟨h, 0, none⟩) zs.length hcp ∧ w1.heap.size ≤ h ∧ h < w2.heap.size := by
          rcases ho2.forms with ⟨e, _⟩ | ⟨h, c, e, e1, e2, _⟩
          · exact absurd e hn2
          · exact ⟨h, c, e, e1, e2⟩
        have hs2 := hb2.size
        obtain ⟨W3, hW3⟩ : ∃ W, W = w2.alloc (Obj.cells #[Value.string s, .slice (some ⟨h, 0, none⟩) zs.length hcp] 29) := ⟨_, rfl⟩
        have hb3 : Below w2.heap.size w2 W3 := by rw [hW3]; exact (Below.refl _ _).alloc (Nat.le_refl _) _
        have hs3 := hb3.size
        have T3 : Hid (TAt W3 w2.heap.size s (.slice (some ⟨h, 0, none⟩) zs.length hcp)) := Lib.hid (by rw [hW3]; exact TAt.new _ _ _ _)
        have F3 := Lib.hid ((HFR.out.below hb2).below hb3)
        obtain ⟨CC, hCC⟩ : ∃ C, C = w2.heap.size := ⟨_, rfl⟩
        have O3 := (ho2.below hb3).le (B := w.heap.size + 2) (by omega) (Nat.le_refl _)
        rw [← hCC] at hh2 O3 T3
        have M0 : Hid (Own W3 (w.heap.size + 2) CC (.slice (some ⟨h, 0, none⟩) zs.length hcp) (M 0)) := Lib.hid (by rw [I0]; exact O3)
        have hh3 : w.heap.size + 2 ≤ h := by omega
        have hz3 : CC < W3.heap.size := by have := T3.out.lt; omega
        have HW3 := Lib.hid hW3
        clear hn2 ho2 O3 I0 hb2 hb3 hW3 m0 m1 r0 r1 f0 f1 hs2 hs3 hh1
        go_wp2_with fail
        rw [← HW3.out]
        clear HW3
        have H_CC := Lib.hid hCC
        rw [← hCC]
        clear hCC
        go_loopg [9] (zs.length + 1) (fun kx s9 wr => ∃ j : Nat, s9 = .int .i64 (j : Int) ∧ j ≤ zs.length ∧ kx = zs.length + 1 - j ∧ Hid (Own wr (w.heap.size + 2) CC (.slice (some ⟨h, 0, none⟩) zs.length hcp) (M j)) ∧ Hid (Fr 1 w.heap.size w.heap.size w wr s (.slice (some ⟨g, 0, none⟩) zs.length cap)) ∧ Hid (TAt wr CC s (.slice (some ⟨h, 0, none⟩) zs.length hcp)) ∧ CC < wr.heap.size)
        case atStart => exact ⟨0, rfl, Nat.zero_le _, rfl, M0, F3, T3, hz3⟩
        case round =>
          obtain ⟨j, rfl, hj, rfl, HO, HFW, HT, hcw⟩ := hrel
          obtain ⟨t0, t1⟩ := HT.out
          by_cases hlt : j < zs.length
          · have j0 : (0 : Int) ≤ (j : Int) := by omega
            have j1 : (j : Int) < (zs.length : Int) := by omega
            have hml := IL.out j hj
            have hat := HO.out.at j (by omega)
            rw [IG.out j hlt (by omega)] at hat
            have hms := IS.out j hlt
            have hma := IAt.out j hlt
            have ki := (KI.out j hlt).1
            obtain ⟨c0, c1⟩ := hat
            have hO := HO.out
            rw [← hma] at hO
            have hwr := HFW.out.hs
            have g0 := hO.free (j * 2)
            rw [Ky.gk_at zs j hlt] at ki
            have hTj : stT zs n d j = zs[j].f0 * n / d := by unfold stT; rw [Ky.gk_at zs j hlt]
            generalize zs[j] = x at *
            obtain ⟨x0, x1⟩ := x
            simp only at c0 c1 hms ki
            rw [hTj] at hms
            obtain ⟨q1, q2⟩ := st_bd x0 n d ki hn hd
            have wk1 : wrap64 (x0 * n) = x0 * n := IntWalk.wrap64_in _ (by omega)
            have wk2 : IntKind.i64.wrap (x0 * n) = x0 * n := IntWalk.i64_in _ (by omega)
            have hd0 : 0 < d := by omega
            have hdn : ¬ d = 0 := by omega
            have hs0 := q1.1
            obtain ⟨w2, hw2⟩ : ∃ W : World, W = ({ heap := wr.heap, tape := wr.tape, drawn := wr.drawn + 1, os := wr.os, output := wr.output } : World) := ⟨_, rfl⟩
            have hB2 : Below wr.heap.size wr w2 := by rw [hw2]; exact ⟨rfl, rfl, rfl, Nat.le_refl _, fun _ _ => rfl⟩
            have e1 : w2.cell? ⟨CC, 1, none⟩ = some (.slice (some ⟨h, 0, none⟩) zs.length hcp) := by rw [hw2]; exact t1
            have e2 : w2.cell? ⟨h, j * 2, none⟩ = some (.int .i64 x0) := by rw [hw2]; exact c0
            have e3 : w2.frozen? ⟨h, j * 2, none⟩ = false := by rw [hw2]; exact g0
            have hs2 := hB2.size
            have hO2 := hO.below hB2
            have HFW2 := HFW.out.below hB2
            have HT2 := HT.out.below hB2
            have hP := Ky.Own.put0 hO2 (by rw [hml]; exact hlt) (x0 * n / d)
            rw [hms] at hP
            have PU := Lib.hid hP
            have PF := Lib.hid ((HFW2).set (b := h) (o := j * 2) (v := .int .i64 (x0 * n / d)) (by omega))
            have PT := Lib.hid ((HT2).mod (B := h) (C := h + 1) (Mod.setCell (o := j * 2) (Mod.refl _ _ w2) (Nat.le_refl _) (Nat.lt_succ_self _) (.int .i64 (x0 * n / d))) (Or.inr (by omega)))
            have hz5 : CC < (w2.setCell ⟨h, j * 2, none⟩ (.int .i64 (x0 * n / d))).heap.size := by simp [World.setCell]; omega
            have HZ := Lib.hid hz5
            clear hP hz5 hO hms hma hml
            have HW2 := Lib.hid hw2
            clear hO2 HFW2 HT2 hw2
            go_wp2_with fail
            refine wp_region_still_tail 15 (by kernel_rfl) (by kernel_rfl) ?_
            rw [← HW2.out]
            clear HW2 t0 t1 c0 c1 g0
            simp only [List.take_succ_cons, List.take_zero, List.drop_succ_cons, List.drop_zero]
            repeat still_step
            refine wpStill_nil ?_
            go_wp2_with fail
            go_roundg (zs.length + 1 - (j + 1))
            case measure => omega
            case rel => exact ⟨j + 1, by go_num, by omega, by omega, PU, PF, PT, HZ.out⟩
          · obtain rfl : j = zs.length := by omega
            have hO := HO.out
            rw [IA.out] at hO
            have hRW := hO.row
            rw [← RL] at hO
            have DN2 := Lib.hid (DN.out h hcp RR wr (by omega) hRW)
            rw [RL] at DN2 hO
            have HO2 := Lib.hid hO
            have hwr := HFW.out.hs
            clear hO hRW DN
            unfold doneT at DN2
            cases ho : trackB s RR with
            | false =>
              have HD : Hid (doneV s RR = tErr 6) := Lib.hid (by unfold doneV; rw [if_neg (by rw [ho]; simp)])
              rw [if_neg (by rw [ho]; simp)] at DN2
              clear ho
              go_wp2_with fail
              refine (DN2.out).mono ?_
              rintro e w6 ⟨rfl, hb6⟩
              clear t0 t1
              have hfr := HFW.out.below hb6
              have HFR := Lib.hid hfr
              have HB1 := Lib.hid hfr.bel
              obtain ⟨m0, m1⟩ := hfr.t
              have r0 := hfr.r0
              have r1 := hfr.r1
              have f0 := hfr.f0
              have f1 := hfr.f1
              clear hfr
              go_wp2_with fail
              refine bodyPost_ret (v := .tuple #[.agg #[.string { data := #[] }, .slice none 0 0], .int .i64 6]) (by simp [results, Try.results39, go_sem, r0, r1]) rfl ⟨_, by rw [HD.out]; rfl, by rw [HD.out]; exact Ky.Own.nil _ _ _, ?_⟩
              repeat (first | exact Below.refl _ _ | exact HB1.out | refine Below.setCell ?_ (by first | (simp; done) | omega | (simp; omega)) _ | refine Below.alloc ?_ (by first | (simp; done) | omega | (simp; omega)) _ | refine bel_drew ?_)
            | true =>
              have HD : Hid (doneV s RR = (s, RR, 0)) := Lib.hid (by unfold doneV; rw [if_pos ho])
              rw [if_pos ho] at DN2
              clear ho
              go_wp2_with fail
              refine (DN2.out).mono ?_
              rintro e w6 ⟨rfl, hb6⟩
              have HO6 := Lib.hid (HO2.out.below hb6)
              have hs6 := hb6.size
              clear t0 t1
              have hfr := HFW.out.below hb6
              have HFR := Lib.hid hfr
              have HB1 := Lib.hid hfr.bel
              obtain ⟨m0, m1⟩ := hfr.t
              have r0 := hfr.r0
              have r1 := hfr.r1
              have f0 := hfr.f0
              have f1 := hfr.f1
              clear hfr
              go_wp2_with fail
              refine bodyPost_ret (v := .tuple #[.agg #[.string s, .slice (some ⟨h, 0, none⟩) zs.length hcp], .int .i64 0]) (by simp [results, Try.results39, go_sem, r0, r1]) rfl ⟨_, by rw [HD.out], ?_, ?_⟩
              · rw [HD.out]
                refine Ky.Own.le (Ky.Own.mod HO6.out (B' := w.heap.size + 1) (C' := w.heap.size + 2) ?_ (Or.inr (Nat.le_refl _))) (by omega) (by simp; omega)
                repeat (first | exact Mod.refl _ _ _ | refine Mod.setCell ?_ (by omega) (by omega) _)
              ·
                repeat (first | exact Below.refl _ _ | exact HB1.out | refine Below.setCell ?_ (by first | (simp; done) | omega | (simp; omega)) _ | refine Below.alloc ?_ (by first | (simp; done) | omega | (simp; omega)) _ | refine bel_drew ?_)
end Go.Proofs.Ytdbocpcijkngpaa.Tk
